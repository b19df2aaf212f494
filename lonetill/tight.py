"""Pairs with room: what leads under a roof that is so much above the greater number."""

from lonetill.checks import check_many, check_ways
from lonetill.grids import grid_of_triples
from lonetill.rooms import pairs_with_room
from lonetill.shafts import shaft_of


def roomy(shaft, place, goal, many):
    """The Grid of the pairs with room many."""
    return grid_of_triples(pairs_with_room(shaft, place, goal, many))


def with_room(house, place, goal, many):
    """The Grid of the pairs (n, m) that lead to one another under the greater one of them and many more."""
    check_ways(house, place, goal)
    check_many(many)
    return roomy(shaft_of(house), place, goal, many)


def least_room(shaft, place, goal):
    """The least many with which the pairs with room are all pairs that lead at all."""
    least, most = 0, len(shaft.flats) * len(shaft.flats)
    whole = roomy(shaft, place, goal, most)
    while least < most:
        middle = (least + most) // 2
        if whole.is_within(roomy(shaft, place, goal, middle)):
            most = middle
        else:
            least = middle + 1
    return least


def tight(house, place, goal):
    """The least many with which the pairs with room are all pairs that lead at all."""
    check_ways(house, place, goal)
    return least_room(shaft_of(house), place, goal)


def room_table(house, place, goal):
    """The list of the tuples (many, Grid), many rising, for 0 and each many that has more pairs than one less."""
    check_ways(house, place, goal)
    shaft = shaft_of(house)
    out = [(0, roomy(shaft, place, goal, 0))]
    for many in range(1, least_room(shaft, place, goal) + 1):
        grid = roomy(shaft, place, goal, many)
        if not grid.is_within(out[-1][1]):
            out.append((many, grid))
    return out
