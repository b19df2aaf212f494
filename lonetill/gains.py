"""Least starts and extras of the gains of plain goings, and plain goings themselves."""

from lonetill.checks import check_many, check_number, check_stands, check_ways
from lonetill.plains import Plains
from lonetill.plots import plot


def least_start(house, place, goal, gain):
    """The least need of the plain goings of this gain; None if there are none."""
    check_ways(house, place, goal)
    check_number(gain)
    return Plains(house).least_start(place, goal, gain)


def extras(house, place, goal):
    """The list of the tuples (k, Line of all gains whose extra is k), rising."""
    check_ways(house, place, goal)
    return Plains(house).extras(place, goal)


def gains(house, place, goal, many):
    """The Line of all gains whose least start is at most many."""
    check_ways(house, place, goal)
    check_many(many)
    return Plains(house).gains(place, goal, many)


def leads_plain(house, place, start, goal, end):
    """Whether a plain going leads from the stand (place, start) to the stand (goal, end)."""
    check_stands(house, place, start, goal, end)
    return Plains(house).leads(place, start, goal, end)


def plain_going(house, place, start, goal, end):
    """A plain going from the stand (place, start) to the stand (goal, end); None if there is none."""
    check_stands(house, place, start, goal, end)
    plains = Plains(house)
    if not plains.leads(place, start, goal, end):
        return None
    return plot(house, plains, place, goal, end - start)
