"""Goings from stand to stand, "empty" deeds among all."""

from lonetill.checks import check_stands
from lonetill.masks import ones
from lonetill.plots import Rises, as_items, level_deeds, plot
from lonetill.tills import Tills


def steps_at_zero(tills, place):
    """What leads at 0 in one step from the place: tuples (word, middle, goal)."""
    out = [("level", place, goal) for goal in ones(tills.ground[place])]
    out = out + [("last", place, goal) for goal in ones(tills.lasting[place])]
    for middle in ones(tills.lifting[place]):
        out = out + [("hop", middle, goal) for goal in ones(tills.plains.dropping[middle])]
    return out


def came_at_zero(tills, zeros):
    """For each place at 0 that the mask's places lead to: the place ahead of it and the step; None at first."""
    came = {place: None for place in ones(zeros)}
    row = ones(zeros)
    at = 0
    while at < len(row):
        for step in steps_at_zero(tills, row[at]):
            if step[2] not in came:
                came[step[2]] = (row[at], step)
                row.append(step[2])
        at += 1
    return came


def position_of(house, deed):
    """The position of a deed of the house."""
    return house.deeds().index(deed)


def deeds_of_step(house, rises, place, step):
    """The deeds of one step at 0 from the place."""
    word, middle, goal = step
    if word == "level":
        return level_deeds(house, place, goal, 0)
    if word == "last":
        return [position_of(house, (place, 0, goal, "empty"))]
    return [position_of(house, (place, 1, middle, "empty"))] + rises.drop(middle, goal)


def items_at_zero(house, tills, came, place):
    """The first place at 0 of the way to this one, and the items of the way."""
    rises, out = Rises(house, tills.plains), []
    while came[place] is not None:
        place, step = came[place]
        out = as_items(deeds_of_step(house, rises, place, step)) + out
    return (place, out)


def rise(house, tills, place, goal, end):
    """The items of a going from the place at 0 up to the stand (goal, end) (there is one)."""
    if tills.plains.leads(place, 0, goal, end):
        return plot(house, tills.plains, place, goal, end)
    for middle in ones(tills.lifting[place]):
        if tills.plains.leads(middle, 0, goal, end - 1):
            return [position_of(house, (place, 1, middle, "empty"))] + plot(house, tills.plains, middle, goal, end - 1)
    return None


def through_zero(house, tills, place, start, goal, end):
    """A going that stands at 0 somewhere on its way; None if there is none."""
    came = came_at_zero(tills, tills.falls_to(place, start))
    for last in ones(tills.rises_to(goal, end)):
        if last in came:
            first, between = items_at_zero(house, tills, came, last)
            fall = plot(house, tills.plains, place, first, 0 - start)
            return fall + between + rise(house, tills, last, goal, end)
    return None


def a_going(house, place, start, goal, end):
    """A going from the stand (place, start) to the stand (goal, end); None if it does not lead there."""
    check_stands(house, place, start, goal, end)
    tills = Tills(house)
    if tills.plains.leads(place, start, goal, end):
        return plot(house, tills.plains, place, goal, end - start)
    return through_zero(house, tills, place, start, goal, end)
