"""Sets of INTEGERS as rows: tuples (low, high, step, bits), rising and apart.

A row has the numbers from low to high (None: no end) whose rest by the step is a set bit.
Rows that these functions return are tidy: each row has a number, and its ends, where it has
ends, are among its numbers. The step of a row without ends is the least one.
"""

from math import lcm

from lonetill.errors import TooMany
from lonetill.masks import full, last_in, next_in, reduced, turned, window

PERIOD = 2520
STRETCHES = 400
# Two periods that are let have at most this common one, so what two lines make can be told.
GREATEST = 2520 * 2520
# Of what is built on the way, more rows than these are not worth waiting for.
MOST_ROWS = 4000


def length_of(low, high):
    """How many INTEGERS lie there; None without an end."""
    return None if low is None or high is None else high - low + 1


def common_step(steps):
    """The least common multiple of the steps; 1 without any."""
    out = 1
    for step in steps:
        out = lcm(out, step)
    return out


def row_of_bits(low, many, bits):
    """The row that has low + k for each set bit k, of so many bits."""
    return (low, low + many - 1, many, turned(bits, many, low))


def bits_of(row):
    """The bits of the numbers of a row with both ends, its low one first."""
    low, high, step, bits = row
    return window(step, bits, low, high - low + 1)


def trimmed(row):
    """A list of the tidy row with the same numbers; empty if it has none."""
    low, high, step, bits = row
    if bits == 0:
        return []
    if low is not None:
        low = next_in(step, bits, low)
    if high is not None:
        high = last_in(step, bits, high)
    many = length_of(low, high)
    if many is not None and many < 1:
        return []
    if many is not None and many < step:
        row = row_of_bits(low, many, window(step, bits, low, many))
        step, bits = row[2], row[3]
    step, bits = reduced(step, bits)
    return [(low, high, step, bits)]


def is_long(row):
    """Whether the row goes on beyond what a few stretches could tell one by one."""
    many = length_of(row[0], row[1])
    return many is None or many > 2 * PERIOD


def last_unlike(low, high, step, bits, other_step, other_bits):
    """The greatest number from low to high (an INTEGER) that has just one kind of rest, or None.

    What agrees along both periods together agrees all the way (Fine and Wilf).
    """
    many = step + other_step
    if low is not None:
        many = min(many, high - low + 1)
    first = high - many + 1
    unlike = window(step, bits, first, many) ^ window(other_step, other_bits, first, many)
    return None if unlike == 0 else first + unlike.bit_length() - 1


def first_unlike(low, high, step, bits, other_step, other_bits):
    """The least number from low (an INTEGER) to high that has just one kind of rest, or None."""
    many = step + other_step
    if high is not None:
        many = min(many, high - low + 1)
    unlike = window(step, bits, low, many) ^ window(other_step, other_bits, low, many)
    return None if unlike == 0 else next_in(many, unlike, 0) + low


def drawn_down(one, two):
    """The rows one and two, two drawn down over what of one has its rests, too."""
    low, high, step, bits = one
    if next_in(two[2], two[3], high + 1) != two[0]:
        return [one, two]
    last = last_unlike(low, high, step, bits, two[2], two[3])
    if last is None:
        return [(low, two[1], two[2], two[3])]
    if is_long(one) or not is_long(two):
        return [one, two]
    return trimmed((low, last, step, bits)) + [(next_in(two[2], two[3], last + 1), two[1], two[2], two[3])]


def drawn_up(one, two):
    """The rows one and two, one drawn up over what of two has its rests, too."""
    low, high, step, bits = two
    if last_in(one[2], one[3], low - 1) != one[1]:
        return [one, two]
    first = first_unlike(low, high, step, bits, one[2], one[3])
    if first is None:
        return [(one[0], high, one[2], one[3])]
    if is_long(two) or not is_long(one):
        return [one, two]
    return [(one[0], last_in(one[2], one[3], first - 1), one[2], one[3])] + trimmed((first, high, step, bits))


def met(one, two):
    """Two neighbours as one row where one period tells both, else as two rows (or what is left)."""
    rows = drawn_down(one, two)
    return drawn_up(rows[0], rows[1]) if len(rows) == 2 else rows


def drawn(rows):
    """The rows, each long one drawn over what of its neighbours has its rests, too."""
    out = []
    for row in rows:
        now = [row]
        while len(out) > 0 and len(now) == 1:
            now = met(out.pop(), now[0])
        out.extend(now)
    return out


def fit_together(one, two):
    """Whether one stretch can tell both rows number by number."""
    many = length_of(one[0], two[1])
    return many is not None and many <= PERIOD


def packed(rows):
    """The rows, neighbours that one stretch can tell number by number made one."""
    out = []
    for row in rows:
        now = row
        while len(out) > 0 and fit_together(out[-1], now):
            below = out.pop()
            bits = bits_of(below) | (bits_of(now) << (now[0] - below[0]))
            now = trimmed(row_of_bits(below[0], now[1] - below[0] + 1, bits))[0]
        out.append(now)
    return out


def tidy(rows):
    """The tidy rows of rising rows that are apart."""
    neat = []
    for row in rows:
        neat.extend(trimmed(row))
    return packed(drawn(neat))


def marks_of(rows):
    """The numbers at which a row begins, and those just behind the rows."""
    return [row[0] for row in rows if row[0] is not None] + [row[1] + 1 for row in rows if row[1] is not None]


def rests_from(rows, lows):
    """For each of the rising lows the (step, bits) of the row that has it; (1, 0) beside the rows."""
    out = []
    at = 0
    for low in lows:
        while at < len(rows) and rows[at][1] is not None and low is not None and rows[at][1] < low:
            at += 1
        begun = at < len(rows) and (rows[at][0] is None or (low is not None and rows[at][0] <= low))
        out.append((rows[at][2], rows[at][3]) if begun else (1, 0))
    return out


def spans(one, two):
    """All INTEGERS cut so that both rows go by rests: tuples (low, high, step, bits, step, bits)."""
    marks = sorted(set(marks_of(one) + marks_of(two)))
    lows = [None] + marks
    highs = [mark - 1 for mark in marks] + [None]
    left, right = rests_from(one, lows), rests_from(two, lows)
    return [(lows[k], highs[k]) + left[k] + right[k] for k in range(len(lows))]


def joined_bits(word, bits, others):
    """The bits of both by the word: "or", "and", or "less" (in the one, not in the other)."""
    if word == "or":
        return bits | others
    if word == "and":
        return bits & others
    return bits ^ (bits & others)


def joined_row(word, span):
    """The row that the two kinds of rests of a span make together by the word."""
    low, high, step, bits, other_step, other_bits = span
    many, size = length_of(low, high), lcm(step, other_step)
    if many is not None:
        size = min(size, many)
    if size > GREATEST:
        raise TooMany("period", PERIOD)
    first = low
    if low is None:
        first = 0 if high is None else high - size + 1
    made = joined_bits(word, window(step, bits, first, size), window(other_step, other_bits, first, size))
    return (low, high, size, turned(made, size, first))


def combined(word, one, two):
    """The rows of what both make together by the word."""
    return tidy([joined_row(word, span) for span in spans(one, two)])


def united(lots):
    """The rows of all numbers of several lists of rows."""
    work = [rows for rows in lots if len(rows) > 0]
    while len(work) > 1:
        pairs = [combined("or", work[k - 1], work[k]) for k in range(1, len(work), 2)]
        work = pairs + [work[-1]] if len(work) % 2 == 1 else pairs
        if max([len(rows) for rows in work]) > MOST_ROWS:
            raise TooMany("stretches", STRETCHES)
    return work[0] if len(work) > 0 else []


def part_of(rows, low, high):
    """The rows of what lies from low to high (None: no end)."""
    return combined("and", rows, [(low, high, 1, 1)])


def shifted_rows(rows, number):
    """The rows of all numbers with one more added."""
    return [(None if low is None else low + number, None if high is None else high + number,
             step, turned(bits, step, number)) for low, high, step, bits in rows]


def cut(row):
    """The row as rows whose steps are let."""
    low, high, step, bits = row
    if step <= PERIOD:
        return [row]
    many = length_of(low, high)
    if many is None or many > PERIOD * STRETCHES:
        raise TooMany("period", PERIOD)
    out = []
    whole = bits_of(row)
    for far in range(0, many, PERIOD):
        size = min(PERIOD, many - far)
        out.extend(trimmed(row_of_bits(low + far, size, (whole >> far) & full(size))))
    return out


def limited(rows):
    """Tidy rows as those that stretches can tell: TooMany where there are none."""
    out = []
    for row in rows:
        out.extend(cut(row))
    if len(out) > STRETCHES:
        raise TooMany("stretches", STRETCHES)
    return out
