"""The lengths of all walks along pairs of places."""

from lonetill.basics import is_count, is_list
from lonetill.errors import InvalidPairs, InvalidPlace
from lonetill.orbits import line_of_meetings, orbit_of
from lonetill.relations import relation_of

PLACES = 16


def is_place(value):
    """Whether any value is a COUNT below 16."""
    return is_count(value) and value < PLACES


def is_pair(value):
    """Whether any value is a tuple of two COUNTS below 16."""
    return isinstance(value, tuple) and len(value) == 2 and is_place(value[0]) and is_place(value[1])


def are_pairs(value):
    """Whether any value is a list of unlike pairs."""
    if not is_list(value) or not all([is_pair(pair) for pair in value]):
        return False
    return len(set(value)) == len(value)


def check_walk_place(place):
    """InvalidPlace unless it is a COUNT below 16."""
    if not is_place(place):
        raise InvalidPlace(place)


def walk_line(pairs, place, goal):
    """The Line of the lengths of all walks along these pairs from the place to the goal."""
    if not are_pairs(pairs):
        raise InvalidPairs(pairs)
    check_walk_place(place)
    check_walk_place(goal)
    return line_of_meetings(orbit_of(relation_of(PLACES, pairs), 1 << place), 1 << goal)
