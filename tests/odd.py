"""Values of many kinds that are passed where they are not valid."""

from lonetill.houses import House
from lonetill.lines import Line


class Strange:
    """A value of a kind of its own."""


NO_INTEGERS = [None, True, False, "1", "", b"1", [1], (1,), {1: 1}, Strange(), Line(), int, (), [], {}]
NO_COUNTS = NO_INTEGERS + [-1, -10 ** 29]
NO_LINES = [None, True, 0, 7, "line", [], [(0, None, 1, [0])], (), {}, Strange(), Line, House(1, [])]
ANY = NO_INTEGERS + NO_LINES + [-1, 0, 1, 10 ** 29, "any", {0: []}, {True: []}, [None], [()], ((),), [[0]], {"a"},
                                [(0, 1)], [("a", "b")], [(Line(), Line())], {0: Line()}, {0: [(0, Line())]}]
