"""Point 44: atoms of Lines."""

import random
import unittest

from lonetill.errors import InvalidLots
from lonetill.lines import Line
from lonetill.refined import atoms
from tests.odd import ANY
from tests.pairs import random_line

COUNTS = Line.counts()
SMALL = Line([(0, 5, 1, [0])])
EVEN = Line([(None, None, 2, [0])])


class Atoms(unittest.TestCase):
    def check(self, lines, most):
        found = atoms(lines)
        self.assertIsInstance(found, list)
        self.assertEqual([atom.least() for atom in found], sorted([atom.least() for atom in found]))
        for atom in found:
            self.assertIs(atom.is_within(COUNTS), True)
            self.assertIs(atom.is_empty, False)
        kinds = {}
        for number in [*range(most + 1), *range(10 ** 29, 10 ** 29 + 24)]:
            places = [position for position, atom in enumerate(found) if atom.has(number)]
            self.assertEqual(len(places), 1)
            kinds.setdefault(tuple(line.has(number) for line in lines), set()).add(places[0])
        self.assertEqual([len(places) for places in kinds.values()], [1] * len(found))

    def test_against_numbers(self):
        self.check([], 20)
        for seed in range(60):
            dice = random.Random(seed)
            lines = [random_line(dice, 12, 2, (1, 2, 3, 4, 6, 12)) or COUNTS for _ in range(dice.randint(1, 4))]
            self.check(lines, 40)

    def test_six_lines_never_have_too_many(self):
        for seed in range(40):
            dice = random.Random(seed)
            lines = [random_line(dice, 100, 2, (1, 2, 3, 4, 6, 12)) or EVEN for _ in range(6)]
            self.check(lines, 120)
            self.check(lines + lines, 120)

    def test_few(self):
        self.assertEqual(atoms([]), [COUNTS])
        self.assertEqual(atoms([Line()]), [COUNTS])
        self.assertEqual(atoms([Line.every(), Line([(None, -1, 1, [0])])]), [COUNTS])
        self.assertEqual(atoms((SMALL, SMALL)), [SMALL, COUNTS - SMALL])
        self.assertEqual(atoms([Line.of([7])]), [COUNTS - Line.of([7]), Line.of([7])])
        self.assertEqual(atoms([Line.of([-7, 0])]), [Line.of([0]), Line([(1, None, 1, [0])])])

    def test_errors(self):
        for odd in [value for value in ANY if value not in ([], ())] + [[SMALL, None], [SMALL, [SMALL]], [SMALL] * 13, {0: SMALL}]:
            with self.assertRaises(InvalidLots) as caught:
                atoms(odd)
            self.assertIs(caught.exception.value, odd)
        self.assertEqual(atoms(lines=[SMALL] * 12), [SMALL, COUNTS - SMALL])

    def test_example(self):
        self.assertEqual([atom.least() for atom in atoms([SMALL, Line([(None, None, 2, [0])])])], [0, 1, 6, 7])
        lines = [SMALL]
        atoms(lines).clear()
        self.assertEqual((lines, len(atoms(lines))), ([SMALL], 2))


if __name__ == "__main__":
    unittest.main()
