"""Axes: the numbers cut into the parts that some lots of rows have just alike.

A part is known by its label: a mask that tells which of the lots have it.
"""

from lonetill.errors import TooMany
from lonetill.masks import full, turned, window
from lonetill.rows import PERIOD, common_step, length_of, marks_of, rests_from, tidy

# A span whose parts need more bits than these is not worth cutting.
MOST_BITS = 40 * PERIOD


def size_of_span(low, high, kinds):
    """How many numbers of the span tell all of it."""
    size = common_step([step for step, _ in kinds])
    many = length_of(low, high)
    if many is not None:
        size = min(size, many)
    if size > MOST_BITS:
        raise TooMany("period", PERIOD)
    return size


def first_of_span(low, high, size):
    """The number at which the bits of a span begin."""
    if low is not None:
        return low
    return 0 if high is None else high - size + 1


def pieces_of_span(first, size, kinds):
    """The parts of a span: tuples (label, bits)."""
    pieces = [(0, full(size))]
    for position, (step, bits) in enumerate(kinds):
        if bits == 0:
            continue
        told = window(step, bits, first, size)
        inner = [(label | (1 << position), has & told) for label, has in pieces if has & told != 0]
        pieces = inner + [(label, has ^ (has & told)) for label, has in pieces if has & told != has]
    return pieces


def span_of(low, high, kinds):
    """The tuple (low, high, size, first, pieces) of a span."""
    size = size_of_span(low, high, kinds)
    first = first_of_span(low, high, size)
    return (low, high, size, first, pieces_of_span(first, size, kinds))


def axis_of(lots, low):
    """The spans of the numbers from low on (None: of all INTEGERS), each cut by the lots of rows."""
    marks = []
    for rows in lots:
        marks.extend([mark for mark in marks_of(rows) if low is None or mark > low])
    marks = sorted(set(marks))
    lows = [low] + marks
    highs = [mark - 1 for mark in marks] + [None]
    kinds = [rests_from(rows, lows) for rows in lots]
    return [span_of(lows[k], highs[k], [kind[k] for kind in kinds]) for k in range(len(lows))]


def labels_of(axis):
    """The labels of all parts, each once."""
    out = {}
    for span in axis:
        for label, _ in span[4]:
            out[label] = True
    return list(out)


def rows_among(axis, chosen):
    """The rows of the parts whose labels are among the keys of a dict."""
    out = []
    for low, high, size, first, pieces in axis:
        bits = 0
        for label, has in pieces:
            if label in chosen:
                bits = bits | has
        if bits != 0:
            out.append((low, high, size, turned(bits, size, first)))
    return tidy(out)
