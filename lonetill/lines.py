"""Lines: sets of INTEGERS that finitely many stretches tell."""

from lonetill.basics import is_integer, is_list
from lonetill.checks import check_end, check_number
from lonetill.errors import InvalidLine, InvalidNumbers, InvalidStretches, TooMany
from lonetill.masks import ones
from lonetill.rows import combined, limited, part_of, shifted_rows, united
from lonetill.seeks import are_same, has_number, last_number, lies_within, many_between
from lonetill.seeks import nearest_unlike, next_number, previous_unlike
from lonetill.stretches import is_stretch, rows_of, stretches_of
from lonetill.totals import mirrored_rows, sums_of_rows

MOST_PASSED = 200
ALL_ROWS = ((None, None, 1, 1),)


def check_stretches(stretches):
    """InvalidStretches unless it is a list of stretches, TooMany if there are too many."""
    if not is_list(stretches):
        raise InvalidStretches(None)
    for position, stretch in enumerate(stretches):
        if not is_stretch(stretch):
            raise InvalidStretches(position)
    if len(stretches) > MOST_PASSED:
        raise TooMany("stretches", MOST_PASSED)


class Line:
    """A set of INTEGERS; it never changes."""

    def __init__(self, stretches=()):
        check_stretches(stretches)
        self._rows = limited(rows_of(stretches))

    @classmethod
    def of(cls, numbers):
        """The Line of just these numbers."""
        if not is_list(numbers) or not all([is_integer(number) for number in numbers]):
            raise InvalidNumbers(numbers)
        return line_of_rows(united([[(number, number, 1, 1)] for number in sorted(numbers)]))

    @classmethod
    def every(cls):
        """The Line of all INTEGERS."""
        return cls([(None, None, 1, [0])])

    @classmethod
    def counts(cls):
        """The Line of all COUNTS."""
        return cls([(0, None, 1, [0])])

    @property
    def is_empty(self):
        """Whether it has no number."""
        return len(self._rows) == 0

    def rows(self):
        """Its tidy rows, as lonetill.rows tells them."""
        return list(self._rows)

    def has(self, number):
        """Whether the number is in it."""
        check_number(number)
        return has_number(self._rows, number)

    def __or__(self, other):
        check_line(other)
        return line_of_rows(combined("or", self._rows, other.rows()))

    def __and__(self, other):
        check_line(other)
        return line_of_rows(combined("and", self._rows, other.rows()))

    def __sub__(self, other):
        check_line(other)
        return line_of_rows(combined("less", self._rows, other.rows()))

    def __eq__(self, other):
        if not isinstance(other, Line):
            return NotImplemented
        return are_same(self._rows, other.rows())

    def other(self):
        """The Line of all INTEGERS that are not in it."""
        return line_of_rows(combined("less", list(ALL_ROWS), self._rows))

    def shifted(self, number):
        """The Line of the sums of its numbers with this one."""
        check_number(number)
        return line_of_rows(shifted_rows(self._rows, number))

    def mirrored(self):
        """The Line of 0 - x for each of its numbers x."""
        return line_of_rows(mirrored_rows(self._rows))

    def part(self, low, high):
        """The Line of its numbers from low to high, each None for no end."""
        check_end(low)
        check_end(high)
        if low is not None and high is not None and low > high:
            return Line()
        return line_of_rows(part_of(self._rows, low, high))

    def sums(self, line):
        """The Line of all sums of a number of it and one of the other line."""
        check_line(line)
        return line_of_rows(sums_of_rows(self._rows, line.rows()))

    def differences(self, line):
        """The Line of all numbers of it less a number of the other line."""
        check_line(line)
        return line_of_rows(sums_of_rows(self._rows, mirrored_rows(line.rows())))

    def least(self):
        """Its least number; None if it is empty or goes down without end."""
        return self._rows[0][0] if len(self._rows) > 0 else None

    def greatest(self):
        """Its greatest number; None if it is empty or goes up without end."""
        return self._rows[-1][1] if len(self._rows) > 0 else None

    def next_from(self, number):
        """Its least number that is not below the told one; None without one."""
        check_number(number)
        return next_number(self._rows, number)

    def last_to(self, number):
        """Its greatest number that is not above the told one; None without one."""
        check_number(number)
        return last_number(self._rows, number)

    def many_from(self, low, high):
        """How many numbers it has from low to high."""
        check_number(low)
        check_number(high)
        return many_between(self._rows, low, high)

    def many_all(self):
        """How many numbers it has; None if it goes on without end."""
        if self.is_empty:
            return 0
        low, high = self.least(), self.greatest()
        return None if low is None or high is None else many_between(self._rows, low, high)

    def tail(self):
        """The tuple (low, period, rests) by which it goes from the least such low on."""
        if self.is_empty:
            return (None, 1, [])
        if self.greatest() is not None:
            return (self.greatest() + 1, 1, [])
        first, _, step, bits = self._rows[-1]
        last = previous_unlike(self._rows, [(None, None, step, bits)], 0 if first is None else first)
        return (None if last is None else last + 1, step, ones(bits))

    def parting(self, line):
        """The number nearest to 0, of two the lesser, that is in just one of both lines."""
        check_line(line)
        return nearest_unlike(self._rows, line.rows())

    def is_within(self, line):
        """Whether each of its numbers is in the other line, too."""
        check_line(line)
        return lies_within(self._rows, line.rows())

    def stretches(self):
        """A list of stretches that tells it, rising and apart."""
        return stretches_of(self._rows)


def check_line(line):
    """InvalidLine unless it is a Line."""
    if not isinstance(line, Line):
        raise InvalidLine(line)


def line_of_rows(rows):
    """The Line of these tidy rows."""
    line = Line()
    line._rows = limited(rows)
    return line
