"""Leasts: what families tell together, at each number the least of their worths."""

from lonetill.basics import is_count, is_list
from lonetill.checks import check_number
from lonetill.errors import InvalidFamilies, InvalidLeast, InvalidNumber, TooMany
from lonetill.lines import line_of_rows
from lonetill.rows import united
from lonetill.series import are_over, cheapest_in, is_family, least_worth, moved_families
from lonetill.series import nearest_to_nothing, parting_of, row_of

MOST_FAMILIES = 2000


def check_families(families):
    """InvalidFamilies unless it is a list of families, TooMany if there are too many."""
    if not is_list(families):
        raise InvalidFamilies(None)
    for position, family in enumerate(families):
        if not is_family(family):
            raise InvalidFamilies(position)
    if len(families) > MOST_FAMILIES:
        raise TooMany("families", MOST_FAMILIES)


class Least:
    """At each INTEGER a worth, or none; it never changes."""

    def __init__(self, families=()):
        check_families(families)
        self._families = list({family: True for family in families})

    def families(self):
        """A list of families that tells it."""
        return list(self._families)

    def at(self, number):
        """The worth at the number; None where it tells none."""
        check_number(number)
        return least_worth(self._families, number)

    def least_of(self, other):
        """The Least that tells the lesser worth of both, or that of the one that tells one."""
        check_least(other)
        return Least(list({family: True for family in self._families + other.families()}))

    def raised(self, number):
        """The Least with all worths more by a COUNT."""
        if not is_count(number):
            raise InvalidNumber(number)
        return Least(moved_families(self._families, 0, number))

    def moved(self, number):
        """The Least that tells at x + number what this one tells at x."""
        check_number(number)
        return Least(moved_families(self._families, number, 0))

    def line(self):
        """The Line of all numbers at which it tells a worth."""
        # Families of one step come together first, so that common periods stay small.
        told = sorted([(family[1], family[0], position) for position, family in enumerate(self._families)])
        return line_of_rows(united([[row_of(self._families[position])] for _, _, position in told]))

    def is_at_most(self, other):
        """Whether it tells, wherever the other one does, a worth that is not greater."""
        check_least(other)
        return are_over(other.families(), self._families)

    def parting(self, other):
        """The number nearest to 0, of two the lesser, at which both tell unlike things; None without one."""
        check_least(other)
        return parting_of(self._families, other.families())

    def cheapest(self):
        """The tuple of the least worth and the number nearest to 0 that has it; None if it tells none."""
        found = [cheapest_in(family) for family in self._families]
        if len(found) == 0:
            return None
        least = min([worth for worth, _ in found])
        return (least, nearest_to_nothing([number for worth, number in found if worth == least]))

    def __eq__(self, other):
        if not isinstance(other, Least):
            return NotImplemented
        return are_over(other.families(), self._families) and are_over(self._families, other.families())


def check_least(other):
    """InvalidLeast unless it is a Least."""
    if not isinstance(other, Least):
        raise InvalidLeast(other)
