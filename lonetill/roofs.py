"""What leads to what under a roof, and the least roof."""

from lonetill.checks import check_many, check_place, check_stands
from lonetill.flights import lots_under
from lonetill.lines import line_of_rows
from lonetill.shafts import shaft_of
from lonetill.tills import Tills


def leads_under(house, place, start, goal, end, roof):
    """Whether the stand (place, start) leads under the roof to the stand (goal, end)."""
    check_stands(house, place, start, goal, end)
    check_many(roof)
    return shaft_of(house).leads(place, start, goal, end, roof)


def lowest_roof(house, shaft, place, start, goal, end):
    """The least roof of two stands; None if the one does not lead to the other."""
    if not Tills(house).leads(place, start, goal, end):
        return None
    least = max(start, end)
    # It leads under each greater roof, too, and the spare is less than the square of the places (point 72).
    most = least + house.places * house.places
    while least < most:
        middle = (least + most) // 2
        if shaft.leads(place, start, goal, end, middle):
            most = middle
        else:
            least = middle + 1
    return least


def least_roof(house, place, start, goal, end):
    """The least roof under which the stand (place, start) leads to the stand (goal, end); None without one."""
    check_stands(house, place, start, goal, end)
    return lowest_roof(house, shaft_of(house), place, start, goal, end)


def lines_under(shaft, place, start, roof):
    """The dict from all places to the Lines of the numbers with which the stand comes to them under the roof."""
    return {goal: line_of_rows(rows) for goal, rows in enumerate(lots_under(shaft, place, start, roof))}


def roof_ends(house, place, start, roof):
    """The dict from all goals to the Lines of the ends of the stand (place, start) under the roof."""
    check_place(house, place)
    check_many(start)
    check_many(roof)
    return lines_under(shaft_of(house), place, start, roof)


def roof_starts(house, goal, end, roof):
    """The dict from all places to the Lines of the starts of the stand (goal, end) under the roof."""
    check_place(house, goal)
    check_many(end)
    check_many(roof)
    return lines_under(shaft_of(house).led_the_other_way(), goal, end, roof)
