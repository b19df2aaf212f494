"""All ends of a stand, all starts of a stand, and the rectangles of what goes through number 0."""

from lonetill.boxes import are_rectangles, are_same_boxes
from lonetill.checks import check_many, check_place, check_ways
from lonetill.tills import Tills

MOST_RECTANGLES = 16


def ends(house, place, start):
    """The dict that has for each place the ends of the stand (place, start) there."""
    check_place(house, place)
    check_many(start)
    tills = Tills(house)
    return {goal: tills.ends(place, start, goal) for goal in range(house.places)}


def starts(house, goal, end):
    """The dict that has for each place the starts of the stand (goal, end) there."""
    check_place(house, goal)
    check_many(end)
    tills = Tills(house)
    return {place: tills.starts(place, goal, end) for place in range(house.places)}


def come_to(house, place, goal):
    """The Line of the starts at the place from which the goal can be come to with some number."""
    check_ways(house, place, goal)
    return Tills(house).come_to(place, goal)


def true_rectangles(house, place, goal):
    """A rectangle for each place whose "empty" deeds are the first ones of some going."""
    tills = Tills(house)
    out = []
    for middle in range(house.places):
        if tills.lasting[middle] | tills.lifting[middle] != 0:
            box = (tills.starts_of_zeros(1 << middle, place), tills.ends_behind(middle, goal))
            if not box[0].is_empty and not box[1].is_empty:
                out.append(box)
    return out


def rectangles(house, place, goal):
    """Rectangles of the place and the goal."""
    check_ways(house, place, goal)
    return true_rectangles(house, place, goal)


def is_rectangles(house, place, goal, value):
    """Whether any value is a list of rectangles of the place and the goal."""
    check_ways(house, place, goal)
    if not are_rectangles(value, MOST_RECTANGLES):
        return False
    return are_same_boxes(true_rectangles(house, place, goal), value)
