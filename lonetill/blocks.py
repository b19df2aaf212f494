"""Blocks: tuples (first, second, difference) of three Lines, None for no bound."""

from lonetill.lines import Line


def is_block(value):
    """Whether any value is a block."""
    if not isinstance(value, tuple) or len(value) != 3:
        return False
    return all([line is None or isinstance(line, Line) for line in value])
