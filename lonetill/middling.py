"""Triples put together one behind another: all (n, m) with some k between them."""

from math import lcm

from lonetill.errors import TooMany
from lonetill.masks import last_in, mask_of, next_in, ones, turned, window
from lonetill.rows import bits_of, combined, length_of, part_of, shifted_rows, trimmed
from lonetill.totals import mirrored_rows, sums_of_rows
from lonetill.triples import INTEGERS, each_once, is_all, merged, with_pairs

MOST_BLOCKS = 4000
# Of what is made on the way, more triples than these are not worth waiting for.
MOST_MADE = 40000


def runs_of(numbers):
    """The rising numbers as runs of even steps: rows of one rest each."""
    out = []
    at = 0
    while at < len(numbers):
        last = at
        step = numbers[at + 1] - numbers[at] if at + 1 < len(numbers) else 1
        while last + 1 < len(numbers) and numbers[last + 1] - numbers[last] == step:
            last += 1
        step = step if last > at else 1
        out.append((numbers[at], numbers[last], step, 1 << (numbers[at] % step)))
        at = last + 1
    return out


def even_rows(rows):
    """The rows with the same numbers, those that are told number by number parted into runs."""
    out = []
    for row in rows:
        many = length_of(row[0], row[1])
        if many is not None and many <= row[2]:
            out.extend(runs_of([row[0] + k for k in ones(bits_of(row))]))
        else:
            out.append(row)
    return out


def is_one_number(row):
    """Whether the row has one number alone."""
    return row[0] is not None and row[0] == row[1]


def rests_in(row, size):
    """For each rest by the size, a multiple of the step, that the row has: (rest, least, greatest number)."""
    low, high, step, bits = row
    out = []
    for rest in ones(window(step, bits, 0, size)):
        least = None if low is None else next_in(size, 1 << rest, low)
        greatest = None if high is None else last_in(size, 1 << rest, high)
        if least is None or greatest is None or least <= greatest:
            out.append((rest, least, greatest))
    return out


def together(one, other):
    """The sum of two ends; None if one of them is no end."""
    return None if one is None or other is None else one + other


def apart(one, other):
    """The one end less the other; None if one of them is no end."""
    return None if one is None or other is None else one - other


def first_side(first, middle, size, told):
    """The n beside which some k of the middle row stands, by a rest of the first differences."""
    rest, least, greatest = told
    # A short stretch need not have a number of each rest that its period lets.
    known = mask_of([other for other, _, _ in rests_in(middle, size)])
    rests = turned(known, size, 0 - rest)
    row = trimmed((apart(middle[0], greatest), apart(middle[1], least), size, rests))
    return combined("and", first, row)


def second_side(second, middle, told):
    """The m beside which some k of the middle row may stand, by a rest of the second differences."""
    low, high = together(middle[0], told[1]), together(middle[1], told[2])
    return part_of(second, low, high) if low is None or high is None or low <= high else []


def by_rests(left, right, middle, one, two):
    """The triples of what goes through a middle row by a row of either differences."""
    size = lcm(middle[2], one[2], two[2])
    starts = [(told, first_side(left[0], middle, size, told)) for told in rests_in(one, size)]
    ends = [(told, second_side(right[1], middle, told)) for told in rests_in(two, size)]
    out = []
    for told, first in starts:
        for more, second in ends:
            row = (together(told[1], more[1]), together(told[2], more[2]), size, 1 << ((told[0] + more[0]) % size))
            if len(first) > 0 and len(second) > 0:
                out.append((first, second, trimmed(row)))
    return out


def by_rows(left, right, middle, one, two):
    """The triples of what goes through a middle row by a row of either differences, perhaps by one number."""
    if is_one_number(one):
        first = combined("and", left[0], shifted_rows([middle], 0 - one[0]))
        return [(first, right[1], shifted_rows([two], one[0]))]
    if is_one_number(two):
        second = combined("and", right[1], shifted_rows([middle], two[0]))
        return [(left[0], second, shifted_rows([one], two[0]))]
    if is_one_number(middle):
        first = combined("and", left[0], shifted_rows(mirrored_rows([one]), middle[0]))
        return [(first, combined("and", right[1], shifted_rows([two], middle[0])), list(INTEGERS))]
    return by_rests(left, right, middle, one, two)


def through(left, right):
    """The triples of all pairs that the left triple, and the right one behind it, make."""
    between = combined("and", left[1], right[0])
    if len(between) == 0:
        return []
    if is_all(left[2]):
        return [(left[0], combined("and", right[1], sums_of_rows(between, right[2])), list(INTEGERS))]
    if is_all(right[2]):
        first = combined("and", left[0], sums_of_rows(between, mirrored_rows(left[2])))
        return [(first, right[1], list(INTEGERS))]
    out = []
    for middle in even_rows(between):
        for one in even_rows(left[2]):
            for two in even_rows(right[2]):
                out.extend(by_rows(left, right, middle, one, two))
    return out


def all_through(one, two):
    """The triples of all pairs that a triple of the one list, and one of the other behind it, make."""
    out = []
    for left in one:
        for right in two:
            out.extend(merged(with_pairs(through(left, right))))
            if len(out) > MOST_MADE:
                raise TooMany("blocks", MOST_BLOCKS)
    return merged(each_once(out))
