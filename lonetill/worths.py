"""Worths: they show that no going costs less."""

from lonetill.checks import check_many, check_place, check_stands
from lonetill.families import Least
from lonetill.series import are_over, moved_families, part_from
from lonetill.tables import is_for_all
from lonetill.tariffs import check_few, check_prices, prices_from


def least_worths(house, prices, place, start):
    """The worths that are the least prices from the stand (place, start)."""
    check_prices(house, prices)
    check_place(house, place)
    check_many(start)
    check_few(house)
    return prices_from(house, prices, place, start)


def undercuts(deed, price, worths):
    """Whether the deed, done at some stand with a worth, leads to one without, or with a greater one than it should."""
    place, change, goal, when = deed
    if when == "empty":
        worth, behind = worths[place].at(0), worths[goal].at(change)
        return worth is not None and (behind is None or behind > worth + price)
    told = part_from(worths[place].families(), max(0, 0 - change))
    return not are_over(moved_families(told, change, price), worths[goal].families())


def are_worths(house, prices, place, start, value):
    """Whether any value is worths of the place and the start."""
    if not is_for_all(house, value) or not all([isinstance(value[goal], Least) for goal in value]):
        return False
    if value[place].at(start) != 0:
        return False
    return not any([undercuts(deed, price, value) for deed, price in zip(house.deeds(), prices)])


def is_worths(house, prices, place, start, value):
    """Whether any value is worths of the place and the start."""
    check_prices(house, prices)
    check_place(house, place)
    check_many(start)
    return are_worths(house, prices, place, start, value)


def tells_dear(house, prices, place, start, goal, end, many, value):
    """Whether any value is worths of the first stand that tell at (goal, end) at least many, or nothing."""
    check_prices(house, prices)
    check_stands(house, place, start, goal, end)
    check_many(many)
    if not are_worths(house, prices, place, start, value):
        return False
    worth = value[goal].at(end)
    return worth is None or worth >= many
