"""Whether a value tells a line."""

from lonetill.basics import is_list
from lonetill.lines import check_line
from lonetill.seeks import are_same, lies_within
from lonetill.stretches import is_stretch, row_list, rows_of


def is_line_of(line, value):
    """Whether any value is a list of stretches that tells the line."""
    check_line(line)
    if not is_list(value) or not all([is_stretch(stretch) for stretch in value]):
        return False
    # A stretch that goes beyond the line decides, whatever common period all of them have.
    if not all([lies_within(row_list(stretch), line.rows()) for stretch in value]):
        return False
    return are_same(rows_of(value), line.rows())
