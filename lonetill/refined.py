"""Atoms: the sets into which some Lines cut the COUNTS."""

from lonetill.axes import axis_of, labels_of, rows_among
from lonetill.basics import is_list
from lonetill.errors import InvalidLots
from lonetill.lines import Line, line_of_rows
from lonetill.triples import counts_within

MOST_LINES = 12


def atoms(lines):
    """The list of the atoms of the Lines, the one with the least number first."""
    if not is_list(lines) or len(lines) > MOST_LINES or not all([isinstance(line, Line) for line in lines]):
        raise InvalidLots(lines)
    axis = axis_of([counts_within(line) for line in lines], 0)
    found = [rows_among(axis, {label: True}) for label in labels_of(axis)]
    by_least = {rows[0][0]: rows for rows in found}
    return [line_of_rows(by_least[least]) for least in sorted(by_least)]
