"""Points 46 and 47: composed grids and middles, against middles looked for one by one."""

import random
import unittest

from lonetill.composed import chained, composed, middles
from lonetill.errors import InvalidGrid, InvalidGrids, InvalidMany
from lonetill.grids import Grid, is_blocks_of
from lonetill.lines import Line
from tests.odd import NO_COUNTS
from tests.pairs import is_in, pairs_of, random_blocks
from tests.test_grids import GRID, NO_GRIDS

FAR = 10 ** 29
COUNTS = Line.counts()
SAME = Grid([(None, None, Line.of([0]))])


def walked_middles(one, two, start, end, most):
    """All middles up to most, looked at one by one."""
    return [k for k in range(most + 1) if is_in(one, start, k) and is_in(two, k, end)]


def near(dice, most):
    """A number near 0, or some more."""
    return dice.choice([dice.randint(0, 9), dice.randint(0, most)])


class Composed(unittest.TestCase):
    def check(self, one, two, wide, dice, tries):
        left, right = Grid(one), Grid(two)
        grid = composed(left, right)
        for _ in range(tries):
            start, end = near(dice, 3 * wide), near(dice, 3 * wide)
            most = start + end + 2 * wide + 20
            told = walked_middles(one, two, start, end, most)
            line = middles(left, right, start, end)
            self.assertEqual([k for k in range(most + 1) if line.has(k)], told)
            self.assertIs(grid.has(start, end), bool(told) or not line.is_empty)
        for start, end in ((FAR, 3), (3, FAR), (FAR, FAR + dice.randint(-9, 9)), (FAR, 2 * FAR)):
            self.assertIs(grid.has(start, end), not middles(left, right, start, end).is_empty)
        return grid

    def test_near(self):
        for seed in range(60):
            dice = random.Random(seed)
            periods = dice.choice([(1,), (1, 2), (1, 3), (1, 2, 3, 6)])
            one, two = [random_blocks(dice, dice.randint(1, 2), 8, 1, periods) for _ in range(2)]
            self.check(one, two, 8, dice, 60)

    def test_several_stretches(self):
        for seed in range(40):
            dice = random.Random(seed)
            one, two = [random_blocks(dice, 1, 9, 2, (1, 2, 3)) for _ in range(2)]
            self.check(one, two, 9, dice, 60)

    def test_short_stretches(self):
        def short(dice):
            if dice.random() < 0.4:
                return random_blocks(dice, 1, 9, 1, (2, 3, 6))[0][0]
            low, period = dice.randint(-4, 12), dice.choice((2, 3, 6))
            return Line([(low, low + dice.randint(0, 7), period, sorted(dice.sample(range(period), dice.randint(1, 2))))])
        for seed in range(250):
            dice = random.Random(seed)
            one, two = [[tuple(short(dice) for _ in range(3))] for _ in range(2)]
            grid = composed(Grid(one), Grid(two))
            for start in range(14):
                for end in range(0, 14):
                    if grid.has(start, end):
                        self.assertNotEqual(walked_middles(one, two, start, end, 60), [])
                    else:
                        self.assertEqual(walked_middles(one, two, start, end, 30), [])

    def test_cases_that_never_have_too_many(self):
        for seed in range(40):
            dice = random.Random(seed)
            periods = dice.choice([(6,), (2, 3, 6), (3,), (4,), (5,)])
            one, two = [random_blocks(dice, 2, 100, 1, periods) for _ in range(2)]
            grid = self.check(one, two, 100, dice, 15)
            back = composed(Grid(two).turned(), Grid(one).turned()).turned()
            self.assertIs(grid == back, True)
            self.assertIs(grid.is_within(back), True)
            self.assertIsNone(grid.parting(back))
            self.assertEqual(grid.first() is None, grid.is_empty)
            some, each = grid.some(), grid.each()
            for start in (0, 7, 150, FAR):
                self.assertEqual((some.has(start), each.has(start)), (not grid.at(start).is_empty, grid.at(start) == COUNTS))
            blocks = grid.blocks()
            self.assertLessEqual(len(blocks), 4000)
            if len(blocks) <= 200:
                self.assertIs(is_blocks_of(grid, blocks), True)
                self.assertIs(is_blocks_of(grid, blocks[1:]) and len(blocks) == 1, False)

    def test_chained(self):
        for seed in range(60):
            dice = random.Random(seed)
            wide = dice.choice([8, 100])
            grids = [Grid(random_blocks(dice, 1, wide, 2, (1,))) for _ in range(3)]
            found = chained(grids)
            self.assertIs(found == composed(composed(grids[0], grids[1]), grids[2]), True)
            self.assertIs(found == composed(grids[0], composed(grids[1], grids[2])), True)
            self.assertIs(is_blocks_of(found, found.blocks()), True)
            for start in (0, 9, FAR):
                self.assertEqual((found.some().has(start), found.each().has(start)),
                                 (not found.at(start).is_empty, found.at(start) == COUNTS))
            self.assertEqual(chained(tuple(grids[:1])), grids[0])
        up = Grid([(None, None, Line.of([FAR]))])
        self.assertEqual(chained([up] * 6), Grid([(None, None, Line.of([6 * FAR]))]))

    def test_the_sequence_matters(self):
        double = Grid([(Line.of([1]), Line.of([2]), None)])
        third = Grid([(Line.of([2]), Line.of([7]), None)])
        self.assertEqual((composed(double, third).first(), composed(third, double).first()), ((1, 7), None))
        self.assertEqual(chained([double, third]).first(), (1, 7))

    def test_same_and_none(self):
        for seed in range(20):
            grid = Grid(random_blocks(random.Random(seed), 2))
            self.assertEqual((composed(SAME, grid), composed(grid, SAME)), (grid, grid))
            self.assertEqual((composed(Grid.none(), grid), composed(grid, Grid())), (Grid.none(), Grid.none()))
            whole = composed(Grid.every(), grid)
            self.assertEqual(whole, Grid([(None, grid.turned().some(), None)]))

    def test_far(self):
        up, down = [Grid([(None, None, Line.of([number]))]) for number in (FAR, -FAR)]
        self.assertEqual(composed(up, down), SAME)
        self.assertEqual(composed(down, up), Grid([(Line([(FAR, None, 1, [0])]), None, Line.of([0]))]))
        thirds = Grid([(None, None, Line([(FAR, None, 3, [1])]))])
        # FAR has the rest 1 by 3, so two such steps gain 2 FAR, and each third number beyond.
        self.assertEqual(composed(thirds, thirds), Grid([(None, None, Line([(2 * FAR, None, 3, [2])]))]))
        self.assertEqual(middles(thirds, thirds.turned(), 0, 0), thirds.at(0))
        small = Grid([(None, Line([(0, FAR, 1, [0])]), Line([(0, None, 1, [0])]))])
        self.assertEqual(composed(small, small.turned()), Grid([(Line([(0, FAR, 1, [0])]), Line([(0, FAR, 1, [0])]), None)]))

    def test_errors(self):
        for odd in NO_GRIDS:
            for call in (lambda: composed(odd, None), lambda: composed(GRID, odd), lambda: middles(odd, None, None, None),
                         lambda: middles(GRID, odd, None, None), lambda: composed(other_grid=odd, grid=GRID)):
                with self.assertRaises(InvalidGrid) as caught:
                    call()
                self.assertIs(caught.exception.value, odd)
            for value in ([odd], [GRID, odd], [GRID] * 7, [], (), odd, {0: GRID}):
                with self.assertRaises(InvalidGrids) as caught:
                    chained(grids=value)
                self.assertIs(caught.exception.value, value)
        for odd in NO_COUNTS:
            for call in (lambda: middles(GRID, GRID, odd, None), lambda: middles(GRID, GRID, 0, odd),
                         lambda: middles(end=odd, start=0, other_grid=GRID, grid=GRID)):
                with self.assertRaises(InvalidMany) as caught:
                    call()
                self.assertIs(caught.exception.value, odd)

    def test_nothing_is_changed(self):
        pairs, grids = pairs_of(GRID, 9), [GRID, GRID]
        composed(GRID, GRID)
        chained(grids)
        middles(GRID, GRID, 4, 1)
        self.assertEqual((pairs_of(GRID, 9), grids), (pairs, [GRID, GRID]))

    def test_example(self):
        self.assertEqual([composed(GRID, GRID).first(), composed(GRID, GRID.turned()).has(2, 5),
                          middles(GRID, GRID, 4, 1) == Line.of([2, 3])], [(2, 0), True, True])


if __name__ == "__main__":
    unittest.main()
