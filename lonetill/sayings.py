"""Sayings: what is said of a house with "and", "or", "not", "some" and "all"."""

from lonetill.basics import is_count, is_integer
from lonetill.errors import InvalidSaying
from lonetill.lines import Line

MOST_DEPTH = 6
# Where no house is told, a saying may be of one of so many places.
MOST_PLACES = 16
LEAVES = ("leads", "in", "below")
LENGTHS = {"leads": 5, "in": 3, "below": 4, "not": 2, "and": 3, "or": 3, "some": 3, "all": 3}
CONTRARIES = {"and": "or", "or": "and", "some": "all", "all": "some"}
EXCHANGED = {"n": "m", "m": "n"}


def is_letter(value):
    """Whether any value is a letter."""
    return isinstance(value, str) and value in EXCHANGED


def is_place(places, value):
    """Whether any value is one of so many places."""
    return is_count(value) and value < places


def has_leaf_form(places, value):
    """Whether a tuple of the right length, a leaf's word ahead, is a leaf of a house of so many places."""
    if value[0] == "leads":
        return is_place(places, value[1]) and is_letter(value[2]) and is_place(places, value[3]) and is_letter(value[4])
    if value[0] == "in":
        return is_letter(value[1]) and isinstance(value[2], Line)
    return is_letter(value[1]) and is_letter(value[2]) and is_integer(value[3])


def has_form(places, value, depth):
    """Whether any value is a saying of so many places that is not deeper than told."""
    if not isinstance(value, tuple) or len(value) == 0 or not isinstance(value[0], str):
        return False
    word = value[0]
    if depth == 0 or word not in LENGTHS or len(value) != LENGTHS[word]:
        return False
    if word in LEAVES:
        return has_leaf_form(places, value)
    if word == "not" and is_leaf(value[1]):
        return has_form(places, value[1], depth)
    if word in ("some", "all") and not is_letter(value[1]):
        return False
    return all([has_form(places, part, depth - 1) for part in parts_of(value)])


def is_leaf(value):
    """Whether any value is by its word a leaf."""
    return isinstance(value, tuple) and len(value) > 0 and isinstance(value[0], str) and value[0] in LEAVES


def parts_of(saying):
    """The sayings within one by its word, in their sequence."""
    if saying[0] in LEAVES:
        return []
    return list(saying[2:]) if saying[0] in ("some", "all") else list(saying[1:])


def is_saying(house, value):
    """Whether any value is a saying of the house."""
    return has_form(house.places, value, MOST_DEPTH)


def check_saying(house, saying):
    """InvalidSaying unless it is a saying of the house."""
    if not is_saying(house, saying):
        raise InvalidSaying(saying)


def check_any_saying(saying):
    """InvalidSaying unless it is a saying of some house."""
    if not has_form(MOST_PLACES, saying, MOST_DEPTH):
        raise InvalidSaying(saying)


def named_letters(saying):
    """The letters that a leaf names, or that the parts of any other saying have."""
    if saying[0] == "leads":
        return [saying[2], saying[4]]
    if saying[0] == "in":
        return [saying[1]]
    if saying[0] == "below":
        return [saying[1], saying[2]]
    return [letter for part in parts_of(saying) for letter in free_letters(part)]


def free_letters(saying):
    """The free letters of a saying: "", "m", "n" or "mn"."""
    named = named_letters(saying)
    bound = saying[1] if saying[0] in ("some", "all") else None
    return "".join([letter for letter in "mn" if letter in named and letter != bound])


def letters_of(saying):
    """The free letters of a saying, a string."""
    check_any_saying(saying)
    return free_letters(saying)


def said(saying, is_right):
    """The upright form of a saying, or, where it is not right, of its not."""
    word = saying[0]
    if word in LEAVES:
        return saying if is_right else ("not", saying)
    if word == "not":
        return said(saying[1], not is_right)
    if not is_right:
        word = CONTRARIES[word]
    if saying[0] in ("some", "all"):
        return (word, saying[1], said(saying[2], is_right))
    return (word, said(saying[1], is_right), said(saying[2], is_right))


def upright(saying):
    """The saying that means the same and has no not but ahead of leaves."""
    check_any_saying(saying)
    return said(saying, True)


def negated(saying):
    """The upright form of the saying's not."""
    check_any_saying(saying)
    return said(saying, False)


def with_letters_changed(saying):
    """The saying with each letter in the place of the other one."""
    if saying[0] == "leads":
        return ("leads", saying[1], EXCHANGED[saying[2]], saying[3], EXCHANGED[saying[4]])
    if saying[0] == "in":
        return ("in", EXCHANGED[saying[1]], saying[2])
    if saying[0] == "below":
        return ("below", EXCHANGED[saying[1]], EXCHANGED[saying[2]], saying[3])
    parts = tuple([with_letters_changed(part) for part in parts_of(saying)])
    if saying[0] in ("some", "all"):
        return (saying[0], EXCHANGED[saying[1]]) + parts
    return (saying[0],) + parts


def exchanged(saying):
    """The saying with n in the place of each m, and m in the place of each n."""
    check_any_saying(saying)
    return with_letters_changed(saying)
