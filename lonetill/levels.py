"""Levels, climbs and drops: what plain goings lead to, seen from their first number."""

from lonetill.grades import deed_relation, grades_of, ground_of
from lonetill.relations import followed, pairs_of


def plain_relations(house):
    """The relations of the plain deeds with the changes 1, 0 and -1."""
    return [deed_relation(house, change, "any") for change in (1, 0, -1)]


def levels(house):
    """The levels of the house, a list of sorted lists of pairs."""
    ups, flats, downs = plain_relations(house)
    return [pairs_of(grade) for grade in grades_of(ups, flats, downs)]


def climbs(house):
    """The sorted list of the pairs that a deed up, and what never falls below it, lead to."""
    ups, flats, downs = plain_relations(house)
    return pairs_of(followed(ups, ground_of(ups, flats, downs)))


def drops(house):
    """The sorted list of the pairs that what never falls, and a deed down behind it, lead to."""
    ups, flats, downs = plain_relations(house)
    return pairs_of(followed(ground_of(ups, flats, downs), downs))
