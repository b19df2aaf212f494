"""The sums of two sets of INTEGERS that are told as rows."""

from math import gcd, lcm

from lonetill.errors import TooMany
from lonetill.masks import backwards, folded, full, many_ones, mirrored_rests, sums_of, window
from lonetill.rows import PERIOD, STRETCHES, length_of, row_of_bits, tidy, united


def mirrored_row(row):
    """The row of 0 - x for each number x of the row."""
    low, high, step, bits = row
    return (None if high is None else 0 - high, None if low is None else 0 - low, step, mirrored_rests(bits, step))


def mirrored_rows(rows):
    """The rows of 0 - x for each number x of the rows."""
    return [mirrored_row(row) for row in rows[::-1]]


def steps_together(step, bits, far, many):
    """The first so many bits of the sums of the rests in one period and the positions of far."""
    out, back = sums_of(bits, far) & full(many), step
    while back < many:
        out = (out | (out << back)) & full(many)
        back = back + back
    return out


def lowest_sums(one, two, many):
    """The bits of the first so many numbers, from the sum of both lows on, that are sums."""
    left = window(one[2], one[3], one[0], min(one[2], many))
    right = window(two[2], two[3], two[0], min(two[2], many))
    if many_ones(left) > many_ones(right):
        return steps_together(two[2], right, window(one[2], one[3], one[0], many), many)
    return steps_together(one[2], left, window(two[2], two[3], two[0], many), many)


def low_zone(one, two, many):
    """A list of the row of the first so many numbers of the sums; empty where they go down for ever."""
    if many == 0 or one[0] is None or two[0] is None:
        return []
    return [row_of_bits(one[0] + two[0], many, lowest_sums(one, two, many))]


def high_zone(one, two, many):
    """A list of the row of the last so many numbers of the sums; empty where they go up for ever."""
    if many == 0 or one[1] is None or two[1] is None:
        return []
    bits = lowest_sums(mirrored_row(one), mirrored_row(two), many)
    return [row_of_bits(one[1] + two[1] - many + 1, many, backwards(bits, many))]


def middle_row(one, two, step, many):
    """The row of the sums, less so many numbers at each end: there they go by rests of the step."""
    left, right = rests_by(one, step), rests_by(two, step)
    low = None if one[0] is None or two[0] is None else one[0] + two[0] + many
    high = None if one[1] is None or two[1] is None else one[1] + two[1] - many
    return (low, high, step, folded(sums_of(left, right), step))


def rests_by(row, step):
    """The rests by the step of all numbers of the row, which has them all or is short."""
    low, high, own, bits = row
    if own % step == 0:
        return folded(bits, step)
    many = high - low + 1
    found = folded(window(own, bits, low, many), step)
    return folded(found << (low % step), step)


def is_shorter(many, other):
    """Whether the length many (None: no end) is less than the other."""
    return many is not None and (other is None or many < other)


def row_sums(one, two):
    """The rows of the sums of two rows.

    Behind a zone at each end the sums go by rests: where both rows have the common period
    whole, by those of the greatest common divisor, and the zones are shorter than the period;
    else the rests are those of the longer row, and the zones are shorter than the other one.
    """
    if is_shorter(length_of(two[0], two[1]), length_of(one[0], one[1])):
        one, two = two, one
    many, size = length_of(one[0], one[1]), lcm(one[2], two[2])
    step, zone = gcd(one[2], two[2]), size - 1
    if many is not None and many <= size:
        step, zone = two[2], many - 1
    if zone > PERIOD * STRETCHES:
        raise TooMany("period", PERIOD)
    return tidy(low_zone(one, two, zone) + [middle_row(one, two, step, zone)] + high_zone(one, two, zone))


def sums_of_rows(one, two):
    """The rows of all sums of a number of the one and a number of the other."""
    return united([united([row_sums(row, other) for other in two]) for row in one])
