"""Joined readers of two, and readers with turned goods."""

from lonetill.errors import TooMany
from lonetill.readers import Reader
from lonetill.twins import Twins, check_changes, check_pairs, goods_of_kinds, kind_of

MOST_PLACES = 16


def both(one, other):
    """The Reader, with the pairs of two places as its places, that takes what both take."""
    check_changes(one, other)
    if one.places * other.places > MOST_PLACES:
        raise TooMany("places", MOST_PLACES)
    width = other.places
    rows = [(p * width + q, letter, one.goal_of(p, letter) * width + other.goal_of(q, letter))
            for p in range(one.places) for q in range(width) for letter in one.letters
            if one.goal_of(p, letter) is not None and other.goal_of(q, letter) is not None]
    goods, others = one.goods(), other.goods()
    kinds = [kind_of(goods, p) & kind_of(others, q) for p in range(one.places) for q in range(width)]
    return Reader(one.places * width, one.changes(), rows, goods_of_kinds(kinds))


def reader_of_pairs(one, twins, kinds):
    """The Reader of all pairs with goods of these kinds."""
    rows = [(twins.place_of(pair), letter, twins.place_of(goal)) for pair, letter, _, goal in twins.steps()]
    return Reader(len(kinds), one.changes(), rows, goods_of_kinds(kinds))


def either(one, other):
    """The Reader, with all pairs as its places, that takes what one of both takes."""
    check_changes(one, other)
    check_pairs(one, other)
    twins = Twins(one, other)
    return reader_of_pairs(one, twins, twins.joined_kinds())


def just_one(one, other):
    """The Reader, with all pairs as its places, that takes what just one of both takes."""
    check_changes(one, other)
    check_pairs(one, other)
    twins = Twins(one, other)
    return reader_of_pairs(one, twins, twins.unlike_kinds())


def turned_goods(reader):
    """The Reader that is good just where this one is not."""
    goods = reader.goods()
    kinds = [kind_of(goods, place) ^ 3 for place in range(reader.places)]
    return Reader(reader.places, reader.changes(), reader.rows(), goods_of_kinds(kinds))
