"""Lids, floors and strips: what plain goings of gain 0 lead to within so much room."""

from lonetill.checks import check_many
from lonetill.relations import pairs_of
from lonetill.shafts import shaft_of


def lids(house):
    """The lids 0, 1, .. up to the first one that is like the next one, sorted lists of pairs."""
    return [pairs_of(lid) for lid in shaft_of(house).all_lids()]


def floors(house):
    """The floors 0, 1, .. up to the first one that is like the next one, sorted lists of pairs."""
    return [pairs_of(floor) for floor in shaft_of(house).all_floors()]


def strip(house, low, high):
    """The sorted list of the pairs of the strip (low, high)."""
    check_many(low)
    check_many(high)
    return pairs_of(shaft_of(house).band(low, high))
