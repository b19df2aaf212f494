"""What is asked of tidy rows: members, next ones, counts, and where two lots differ."""

from lonetill.masks import last_in, many_ones, next_in, window
from lonetill.rows import combined, first_unlike, last_unlike, marks_of, rests_from, spans

# So many numbers at the end of a span are looked at before all of them are.
LOOKED_AT = 2520


def row_at(rows, number):
    """The position of the first row that does not end below the number."""
    first, behind = 0, len(rows)
    while first < behind:
        middle = (first + behind) // 2
        if rows[middle][1] is not None and rows[middle][1] < number:
            first = middle + 1
        else:
            behind = middle
    return first


def begins_above(rows, at, number):
    """Whether there is no such row, or it begins above the number."""
    return at == len(rows) or (rows[at][0] is not None and rows[at][0] > number)


def has_number(rows, number):
    """Whether the number is in one of the rows."""
    at = row_at(rows, number)
    if begins_above(rows, at, number):
        return False
    return (rows[at][3] >> (number % rows[at][2])) & 1 == 1


def next_number(rows, number):
    """The least number of the rows from this one on, or None."""
    at = row_at(rows, number)
    if at == len(rows):
        return None
    low, _, step, bits = rows[at]
    return low if begins_above(rows, at, number) else next_in(step, bits, number)


def last_number(rows, number):
    """The greatest number of the rows up to this one, or None."""
    at = row_at(rows, number)
    if not begins_above(rows, at, number):
        return last_in(rows[at][2], rows[at][3], number)
    return rows[at - 1][1] if at > 0 else None


def many_in_row(row, low, high):
    """How many numbers the row has from low to high."""
    first = low if row[0] is None else max(low, row[0])
    last = high if row[1] is None else min(high, row[1])
    if first > last:
        return 0
    rounds, rest = divmod(last - first + 1, row[2])
    return rounds * many_ones(row[3]) + many_ones(window(row[2], row[3], first, rest))


def many_between(rows, low, high):
    """How many numbers the rows have from low to high."""
    return sum([many_in_row(row, low, high) for row in rows])


def next_unlike(one, two, number):
    """The least number, not below the told one, that is in just one of both; None without one."""
    for low, high, step, bits, other_step, other_bits in spans(one, two):
        if high is not None and high < number:
            continue
        first = number if low is None else max(low, number)
        found = first_unlike(first, high, step, bits, other_step, other_bits)
        if found is not None:
            return found
    return None


def previous_unlike(one, two, number):
    """The greatest number, not above the told one, that is in just one of both; None without one."""
    for low, high, step, bits, other_step, other_bits in spans(one, two)[::-1]:
        if low is not None and low > number:
            continue
        last = number if high is None else min(high, number)
        found = last_unlike(low, last, step, bits, other_step, other_bits)
        if found is not None:
            return found
    return None


def are_same(one, two):
    """Whether both have the same numbers."""
    return next_unlike(one, two, 0) is None and previous_unlike(one, two, -1) is None


def nearest_unlike(one, two):
    """The number nearest to 0, of two the lesser, that is in just one of both; None without one."""
    above, below = next_unlike(one, two, 0), previous_unlike(one, two, -1)
    if above is None or below is None:
        return below if above is None else above
    return above if above < 0 - below else below


def lies_within(one, two):
    """Whether each number of the one is in the other, too."""
    return len(combined("less", one, two)) == 0


def is_bare_about(low, high, kind, kinds):
    """Whether some number at the end of a span has one of the rests of the kind, and none of the other kinds."""
    many = LOOKED_AT if low is None or high is None else min(LOOKED_AT, high - low + 1)
    first = low
    if low is None:
        first = 0 if high is None else high - many + 1
    left = window(kind[0], kind[1], first, many)
    for step, bits in kinds:
        left = left ^ (left & window(step, bits, first, many))
    return left != 0


def is_bare_near(rows, lots):
    """Whether a look at the ends of all spans finds a number of the rows that is in none of the lots."""
    marks = marks_of(rows)
    for lot in lots:
        marks = marks + marks_of(lot)
    marks = sorted(set(marks))
    lows, highs = [None] + marks, [mark - 1 for mark in marks] + [None]
    told = rests_from(rows, lows)
    kinds = [rests_from(lot, lows) for lot in lots]
    return any([is_bare_about(lows[k], highs[k], told[k], [kind[k] for kind in kinds]) for k in range(len(lows))])


def is_covered(rows, lots):
    """Whether each number of the rows is in one of the lots of rows at least.

    Most answers need no common period of all lots, which may be too great: these are looked for first.
    """
    if len(rows) == 0 or any([lies_within(rows, lot) for lot in lots]):
        return True
    if is_bare_near(rows, lots):
        return False
    left = rows
    for lot in lots:
        left = combined("less", left, lot)
    return len(left) == 0
