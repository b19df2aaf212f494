"""Stretches, the tuples (low, high, period, rests) by which lines are told, and their rows."""

from lonetill.basics import is_count, is_integer, is_list
from lonetill.masks import mask_of, ones
from lonetill.rows import PERIOD, trimmed, united


def is_end(value):
    """Whether any value is an end of a stretch."""
    return value is None or is_integer(value)


def are_rests(value, period):
    """Whether any value is a rising list of rests by the period, not empty."""
    if not is_list(value) or len(value) == 0:
        return False
    last = -1
    for rest in value:
        if not is_count(rest) or rest <= last or rest >= period:
            return False
        last = rest
    return True


def is_stretch(value):
    """Whether any value is a stretch."""
    if not isinstance(value, tuple) or len(value) != 4:
        return False
    low, high, period, rests = value
    if not is_end(low) or not is_end(high):
        return False
    if low is not None and high is not None and low > high:
        return False
    return is_integer(period) and 1 <= period <= PERIOD and are_rests(rests, period)


def row_list(stretch):
    """The rows of one stretch: one, or none."""
    low, high, period, rests = stretch
    return trimmed((low, high, period, mask_of(rests)))


def rows_of(stretches):
    """The rows of all stretches together.

    Those of like periods come together first, so that common periods stay small.
    """
    periods = sorted([(stretch[2], position) for position, stretch in enumerate(stretches)])
    return united([row_list(stretches[position]) for _, position in periods])


def stretches_of(rows):
    """The stretches that tell the rows, one for each."""
    return [(low, high, step, ones(bits)) for low, high, step, bits in rows]
