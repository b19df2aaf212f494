"""What is asked of tidy rows: members, next ones, counts, and where two lots differ."""

from lonetill.masks import last_in, many_ones, next_in, window
from lonetill.rows import combined, first_unlike, last_unlike, spans


def row_at(rows, number):
    """The position of the first row that does not end below the number."""
    first, behind = 0, len(rows)
    while first < behind:
        middle = (first + behind) // 2
        if rows[middle][1] is not None and rows[middle][1] < number:
            first = middle + 1
        else:
            behind = middle
    return first


def begins_above(rows, at, number):
    """Whether there is no such row, or it begins above the number."""
    return at == len(rows) or (rows[at][0] is not None and rows[at][0] > number)


def has_number(rows, number):
    """Whether the number is in one of the rows."""
    at = row_at(rows, number)
    if begins_above(rows, at, number):
        return False
    return (rows[at][3] >> (number % rows[at][2])) & 1 == 1


def next_number(rows, number):
    """The least number of the rows from this one on, or None."""
    at = row_at(rows, number)
    if at == len(rows):
        return None
    low, _, step, bits = rows[at]
    return low if begins_above(rows, at, number) else next_in(step, bits, number)


def last_number(rows, number):
    """The greatest number of the rows up to this one, or None."""
    at = row_at(rows, number)
    if not begins_above(rows, at, number):
        return last_in(rows[at][2], rows[at][3], number)
    return rows[at - 1][1] if at > 0 else None


def many_in_row(row, low, high):
    """How many numbers the row has from low to high."""
    first = low if row[0] is None else max(low, row[0])
    last = high if row[1] is None else min(high, row[1])
    if first > last:
        return 0
    rounds, rest = divmod(last - first + 1, row[2])
    return rounds * many_ones(row[3]) + many_ones(window(row[2], row[3], first, rest))


def many_between(rows, low, high):
    """How many numbers the rows have from low to high."""
    return sum([many_in_row(row, low, high) for row in rows])


def next_unlike(one, two, number):
    """The least number, not below the told one, that is in just one of both; None without one."""
    for low, high, step, bits, other_step, other_bits in spans(one, two):
        if high is not None and high < number:
            continue
        first = number if low is None else max(low, number)
        found = first_unlike(first, high, step, bits, other_step, other_bits)
        if found is not None:
            return found
    return None


def previous_unlike(one, two, number):
    """The greatest number, not above the told one, that is in just one of both; None without one."""
    for low, high, step, bits, other_step, other_bits in spans(one, two)[::-1]:
        if low is not None and low > number:
            continue
        last = number if high is None else min(high, number)
        found = last_unlike(low, last, step, bits, other_step, other_bits)
        if found is not None:
            return found
    return None


def are_same(one, two):
    """Whether both have the same numbers."""
    return next_unlike(one, two, 0) is None and previous_unlike(one, two, -1) is None


def nearest_unlike(one, two):
    """The number nearest to 0, of two the lesser, that is in just one of both; None without one."""
    above, below = next_unlike(one, two, 0), previous_unlike(one, two, -1)
    if above is None or below is None:
        return below if above is None else above
    return above if above < 0 - below else below


def lies_within(one, two):
    """Whether each number of the one is in the other, too."""
    return len(combined("less", one, two)) == 0


def is_covered(rows, lots):
    """Whether each number of the rows is in one of the lots of rows at least."""
    left = rows
    for lot in lots:
        if len(left) == 0:
            return True
        left = combined("less", left, lot)
    return len(left) == 0
