"""The judge is_line_of: stretches that tell a line, and values of any kind that do not."""

import random
import unittest

from lonetill.errors import InvalidLine
from lonetill.lines import Line
from lonetill.looks import is_line_of
from tests.odd import ANY, NO_LINES
from tests.test_lines import random_stretch, told

FAR = 10 ** 29


class Looks(unittest.TestCase):
    def test_examples(self):
        self.assertEqual([is_line_of(Line.of([1, 2, 4]), [(1, 2, 1, [0]), (3, 4, 2, [0])]),
                          is_line_of(Line.counts(), [(0, None, 1, [0]), (5, 9, 2, [1])])], [True, True])

    def test_told_otherwise(self):
        line = Line([(0, None, 3, [0, 1])])
        stretches = [(10, None, 6, [0, 1, 3, 4]), (0, 1, 1, [0]), (2, 9, 3, [0, 1])]
        self.assertIs(is_line_of(line, stretches), True)
        self.assertIs(is_line_of(line=line, value=tuple(stretches)), True)
        self.assertIs(is_line_of(line, stretches + [(3, 4, 1, (0,)), (1, 1, 2, [0])]), True)
        self.assertIs(is_line_of(Line(), []), True)
        self.assertIs(is_line_of(Line(), [(1, 1, 2, [0])]), True)

    def test_nearly_right(self):
        line = Line([(-FAR, None, 3, [0, 1])])
        for value in ([(-FAR, None, 3, [0])], [(-FAR, None, 3, [0, 1, 2])], [(3 - FAR, None, 3, [0, 1])],
                      [(-FAR, FAR, 3, [0, 1])], [(-FAR - 3, None, 3, [0, 1])], [], [(None, None, 3, [0, 1])],
                      [(-FAR, None, 3, [0, 1]), (2, 2, 1, [0])], [(-FAR, None, 3, [1, 0])],
                      [(-FAR, None, 3, [0, 1]), None], [[-FAR, None, 3, [0, 1]]], [(-FAR, None, 3, [False, 1])],
                      (-FAR, None, 3, [0, 1]), {(-FAR, None, 3, (0, 1))}):
            self.assertIs(is_line_of(line, value), False, value)

    def test_values_of_any_kind(self):
        for value in ANY:
            self.assertIs(is_line_of(Line.of([5]), value), False)
            self.assertIs(is_line_of(Line(), value), isinstance(value, (list, tuple)) and len(value) == 0)

    def test_no_line(self):
        for value in NO_LINES:
            with self.assertRaises(InvalidLine) as caught:
                is_line_of(value, None)
            self.assertIs(caught.exception.value, value)

    def test_against_numbers(self):
        dice = random.Random(3)
        for _ in range(120):
            stretches = [random_stretch(dice) for _ in range(dice.randint(0, 4))]
            others = [random_stretch(dice) for _ in range(dice.randint(0, 2))]
            others = others if dice.random() < 0.3 else stretches[::-1] + others
            self.assertIs(is_line_of(Line(stretches), others), told(stretches) == told(others))

    def test_own_stretches(self):
        line = Line([(0, None, 60, [7])]) | Line.of([k * k for k in range(-30, 30)])
        stretches = line.stretches()
        self.assertIs(is_line_of(line, stretches), True)
        self.assertIs(is_line_of(line, stretches + stretches), True)
        for position in range(len(stretches)):
            self.assertIs(is_line_of(line, stretches[:position] + stretches[position + 1:]), False)

    def test_many_stretches(self):
        stretches = [(k, None, 60, [k % 60]) for k in range(200)]
        self.assertIs(is_line_of(Line.counts(), stretches), True)
        self.assertIs(is_line_of(Line.counts(), stretches + [(-1, -1, 1, [0])]), False)
        self.assertEqual(stretches[5], (5, None, 60, [5]))


if __name__ == "__main__":
    unittest.main()
