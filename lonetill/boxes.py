"""Rectangles: tuples of a Line of starts and a Line of ends, all pairs of both being in them."""

from lonetill.basics import is_list
from lonetill.lines import Line
from lonetill.rows import combined, united
from lonetill.seeks import are_same


def has_just_counts(value):
    """Whether any value is a Line of COUNTS that is not empty."""
    return isinstance(value, Line) and value.least() is not None and value.least() >= 0


def is_rectangle(value):
    """Whether any value is a tuple of two Lines of COUNTS, neither empty."""
    return isinstance(value, tuple) and len(value) == 2 and has_just_counts(value[0]) and has_just_counts(value[1])


def are_rectangles(value, most):
    """Whether any value is a list of rectangles, at most so many."""
    return is_list(value) and len(value) <= most and all([is_rectangle(box) for box in value])


def cut_by(pieces, rows, position):
    """The pieces (rows, positions) cut by one more lot of rows, whose position the inner ones get."""
    out = []
    for piece, positions in pieces:
        inner = combined("and", piece, rows)
        outer = combined("less", piece, rows)
        if len(inner) > 0:
            out.append((inner, positions + [position]))
        if len(outer) > 0:
            out.append((outer, positions))
    return out


def pieces_of(lots):
    """For each part, not empty, into which the lots of rows cut the COUNTS the positions of those with it."""
    pieces = [([(0, None, 1, 1)], [])]
    for position, rows in enumerate(lots):
        pieces = cut_by(pieces, rows, position)
    return [positions for _, positions in pieces]


def are_same_boxes(one, two):
    """Whether two lists of rectangles have the same pairs."""
    both = list(one) + list(two)
    for positions in pieces_of([starts.rows() for starts, _ in both]):
        left = united([both[k][1].rows() for k in positions if k < len(one)])
        right = united([both[k][1].rows() for k in positions if k >= len(one)])
        if not are_same(left, right):
            return False
    return True
