"""What leads to what, "empty" deeds among all."""

from lonetill.checks import check_stands
from lonetill.relations import pairs_of
from lonetill.tills import Tills


def at_empty(house):
    """The sorted list of the tuples (place, goal) of which the first leads to the second at empty."""
    return pairs_of(Tills(house).turns)


def leads(house, place, start, goal, end):
    """Whether the stand (place, start) leads to the stand (goal, end)."""
    check_stands(house, place, start, goal, end)
    return Tills(house).leads(place, start, goal, end)
