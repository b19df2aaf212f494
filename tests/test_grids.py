"""Points 41, 43, 45: grids, against their pairs looked at one by one."""

import random
import unittest

from lonetill.blocks import is_block
from lonetill.errors import InvalidBlocks, InvalidGrid, InvalidLine, InvalidMany, InvalidNumber, TooMany
from lonetill.grids import Grid, is_blocks_of, reach, within
from lonetill.houses import House
from lonetill.lines import Line
from tests.odd import ANY, NO_COUNTS, NO_INTEGERS, NO_LINES
from tests.pairs import far_pairs, is_in, pairs_of, pairs_of_blocks, random_blocks, random_line

FAR = 10 ** 29
COUNTS = Line.counts()
SMALL, FALL = Line([(0, 5, 1, [0])]), Line([(None, -1, 1, [0])])
GRID = Grid([(SMALL, None, FALL)])
NO_GRIDS = NO_LINES + [COUNTS, [(None, None, None)], [(SMALL, None, FALL)], Grid]
MOST = 40


def built(dice, leaves, many, wide, periods):
    """A Grid made by so many operations, and a function that tells its pairs."""
    if many == 0:
        blocks = dice.choice(leaves)
        return Grid(blocks), lambda start, end: is_in(blocks, start, end)
    word = dice.choice(["|", "&", "-", "other", "turned", "shifted", "within"])
    if word in "|&-":
        ahead = dice.randint(0, many - 1)
        one, has = built(dice, leaves, ahead, wide, periods)
        two, have = built(dice, leaves, many - 1 - ahead, wide, periods)
        if word == "|":
            return one | two, lambda start, end: has(start, end) or have(start, end)
        if word == "&":
            return one & two, lambda start, end: has(start, end) and have(start, end)
        return one - two, lambda start, end: has(start, end) and not have(start, end)
    one, has = built(dice, leaves, many - 1, wide, periods)
    if word == "other":
        return one.other(), lambda start, end: not has(start, end)
    if word == "turned":
        return one.turned(), lambda start, end: has(end, start)
    if word == "shifted":
        first, second = dice.randint(-wide, wide), dice.randint(-wide, wide)
        return (one.shifted(first, second),
                lambda start, end: start >= first and end >= second and has(start - first, end - second))
    line, other = [random_line(dice, wide, 2, periods) or COUNTS for _ in range(2)]
    return within(one, line, other), lambda start, end: line.has(start) and other.has(end) and has(start, end)


class Grids(unittest.TestCase):
    def test_pairs_and_operators(self):
        every = {(start, end) for start in range(MOST + 1) for end in range(MOST + 1)}
        for seed in range(60):
            dice = random.Random(seed)
            one, two = random_blocks(dice, dice.randint(0, 2)), random_blocks(dice, dice.randint(1, 3))
            left, right = Grid(one), Grid(two)
            ours, others = pairs_of_blocks(one, MOST), pairs_of_blocks(two, MOST)
            self.assertEqual((pairs_of(left, MOST), pairs_of(right, MOST)), (ours, others))
            self.assertEqual(pairs_of(left | right, MOST), ours | others)
            self.assertEqual(pairs_of(left & right, MOST), ours & others)
            self.assertEqual(pairs_of(left - right, MOST), ours - others)
            self.assertEqual(pairs_of(right.other(), MOST), every - others)
            self.assertEqual(pairs_of(right.turned(), MOST), {(end, start) for start, end in others})
            first, second = dice.randint(-9, 9), dice.randint(-9, 9)
            moved = {(start + first, end + second) for start, end in pairs_of_blocks(two, MOST + 9)}
            self.assertEqual(pairs_of(right.shifted(first, second), MOST), moved & every)
            self.check_order(left, right, ours, others)

    def check_order(self, left, right, ours, others):
        self.assertIs(left.is_empty, left == Grid.none())
        if ours:
            self.assertEqual(left.first(), min(ours))
        if not ours <= others:
            self.assertIs(left.is_within(right), False)
        self.assertIs(left.is_within(right), (left - right).is_empty)
        self.assertIs((left & right).is_within(right), True)
        if ours ^ others:
            self.assertEqual(left.parting(right), min(ours ^ others))
            self.assertIs(left == right, False)
        else:
            self.assertIs(left == right, left.parting(right) is None)

    def test_lines_of_a_grid(self):
        for seed in range(60):
            dice = random.Random(1000 + seed)
            blocks = random_blocks(dice, dice.randint(1, 3))
            grid, most = Grid(blocks), 80
            some, each = grid.some(), grid.each()
            for start in range(25):
                line = grid.at(start)
                self.assertEqual([end for end in range(most) if line.has(end)],
                                 [end for end in range(most) if is_in(blocks, start, end)])
                self.assertIsNone(line.last_to(-1))
                self.assertIs(some.has(start), any(is_in(blocks, start, end) for end in range(most)))
                self.assertIs(each.has(start), all(is_in(blocks, start, end) for end in range(most)))
            for line in (some, each):
                self.assertIs(line.is_within(COUNTS), True)
            for start in (FAR, FAR + 1, FAR + 2):
                self.assertIs(some.has(start), not grid.at(start).is_empty)
                self.assertIs(each.has(start), grid.at(start) == COUNTS)

    def test_three_operations_never_have_too_many(self):
        for seed in range(150):
            dice = random.Random(seed)
            periods = dice.choice([(1, 2, 3, 4, 6, 12), (1, 2, 3, 6), (1, 2, 4), (12, 4, 3)])
            leaves = [random_blocks(dice, 2, 100, 2, periods) for _ in range(2)]
            one, has = built(dice, leaves, 3, 100, periods)
            two, have = built(dice, leaves, 3, 100, periods)
            for start, end in far_pairs(dice, 60):
                self.assertIs(one.has(start, end), has(start, end))
                self.assertIs(two.has(start, end), have(start, end))
            found = one.parting(two)
            self.assertIs(one == two, found is None)
            if found is not None:
                self.assertNotEqual(has(*found), have(*found))
            self.check_whole(one, has, dice)

    def check_whole(self, grid, has, dice):
        some, each, first = grid.some(), grid.each(), grid.first()
        self.assertIs(first is None, grid.is_empty)
        if first is not None:
            self.assertIs(has(*first), True)
            self.assertEqual((some.least(), grid.at(first[0]).least()), first)
        for start in (0, 1, dice.randint(0, 300), FAR):
            self.assertIs(some.has(start), not grid.at(start).is_empty)
            self.assertIs(each.has(start), grid.at(start) == COUNTS)
        blocks = grid.blocks()
        self.assertLessEqual(len(blocks), 4000)
        self.assertIs(Grid(blocks[:200]).is_within(grid), True)
        self.assertIs(is_blocks_of(grid, blocks[::-1]), True)
        self.assertIs(grid.other().other() == grid, True)

    def test_far_and_near_the_diagonal(self):
        near = Grid([(None, None, Line([(-3, 3, 1, [0])]))])
        for start in (0, 5, FAR):
            self.assertEqual(near.at(start), Line([(max(0, start - 3), start + 3, 1, [0])]))
        self.assertEqual(near.other().first(), (0, 4))
        self.assertEqual(near.each(), Line())
        self.assertEqual((near - near.shifted(FAR, FAR)).parting(near), (FAR, FAR))
        self.assertEqual(near.parting(near | Grid([(Line.of([FAR]), Line.of([7]), None)])), (FAR, 7))
        self.assertEqual(near.parting(near - Grid([(Line([(FAR, None, 1, [0])]), None, Line.of([3]))])), (FAR, FAR + 3))
        apart = Grid([(None, None, Line.of([-FAR, FAR]))])
        self.assertEqual((apart.first(), apart.turned() == apart, apart.at(FAR)), ((0, FAR), True, Line.of([0, 2 * FAR])))
        self.assertEqual((apart.some(), apart.some().has(0)), (COUNTS, True))
        self.assertEqual(Grid([(None, None, Line.of([-FAR]))]).some(), Line([(FAR, None, 1, [0])]))
        self.assertEqual(Grid([(COUNTS, Line.of([FAR]), Line([(None, None, 7, [0])]))]).some(), Line([(0, None, 7, [FAR % 7])]))

    def test_shifted(self):
        grid = Grid([(Line.of([2, 5]), None, Line.of([1]))])
        self.assertEqual(grid.shifted(-3, 0).first(), (2, 6))
        self.assertEqual(grid.shifted(-2, -3), Grid([(Line.of([0]), Line.of([0]), None), (Line.of([3]), Line.of([3]), None)]))
        self.assertEqual(grid.shifted(-6, 0), Grid.none())
        self.assertEqual(grid.shifted(0, -FAR).is_empty, True)
        self.assertEqual(grid.shifted(FAR, 0), Grid([(Line.of([FAR + 2]), Line.of([3]), None), (Line.of([FAR + 5]), Line.of([6]), None)]))
        self.assertEqual(Grid.every().shifted(3, -3), Grid([(Line([(3, None, 1, [0])]), None, None)]))
        self.assertEqual(Grid.every().shifted(-3, -3), Grid.every())

    def test_the_same_grid_by_other_blocks(self):
        even, odd = Line([(None, None, 2, [0])]), Line([(None, None, 2, [1])])
        whole = Grid.every()
        for blocks in ([(even, None, None), (odd, None, None)], [(None, even, odd), (None, odd, odd), (None, None, even)],
                       [(SMALL, None, None), (COUNTS - SMALL, None, None)], [(None, None, FALL), (None, None, COUNTS)],
                       [(Line.every(), Line.every(), Line.every())], [(None, Line([(-3, None, 1, [0])]), None)]):
            self.assertEqual(Grid(blocks), whole)
            self.assertIs(is_blocks_of(whole, blocks), True)
            self.assertIs(is_blocks_of(whole, tuple(blocks)), True)
            self.assertEqual((Grid(blocks) - whole, Grid(blocks).other()), (Grid.none(), Grid()))
        for blocks in ([], [(even, odd, even)], [(FALL, None, None)], [(None, FALL, None)], [(SMALL, SMALL, Line.of([6]))],
                       [(None, Line.of([3]), Line.of([4]))], [(Line(), None, None), (None, None, Line())]):
            self.assertEqual((Grid(blocks), Grid(blocks).is_empty, Grid(blocks).first()), (Grid.none(), True, None))
            self.assertEqual((Grid(blocks).some(), Grid(blocks).each(), Grid(blocks).other()), (Line(), Line(), whole))
        self.assertEqual(Grid([(Line.every(), Line.of([-4, 4]), None)]), Grid([(None, Line.of([4]), None)]))

    def test_equal_to_nothing_else(self):
        for value in NO_GRIDS:
            self.assertIs(GRID == value, False)
            self.assertIs(GRID != value, True)
        self.assertIs(GRID == Grid([(SMALL, SMALL, FALL)]), True)
        self.assertIs(GRID != Grid([(SMALL, SMALL, FALL)]), False)

    def test_every_and_none(self):
        self.assertEqual((Grid.every().has(FAR, 0), Grid.none().has(0, 0)), (True, False))
        self.assertEqual((Grid.every().first(), Grid.every().each(), Grid.every().at(3)), ((0, 0), COUNTS, COUNTS))
        self.assertEqual(Grid().blocks(), [])
        self.assertEqual(Grid.every().is_empty, False)

    def test_blocks(self):
        for seed in range(40):
            dice = random.Random(seed)
            grid = Grid(random_blocks(dice, 2)) - Grid(random_blocks(dice, 1))
            blocks = grid.blocks()
            self.assertIs(all(isinstance(block, tuple) and len(block) == 3 for block in blocks), True)
            self.assertIs(all(isinstance(line, Line) for block in blocks for line in block), True)
            self.assertEqual(Grid(blocks), grid)
            blocks.append(None)
            self.assertNotIn(None, grid.blocks())

    def test_is_blocks_of(self):
        self.assertIs(is_blocks_of(GRID, [(SMALL, SMALL, FALL)] * 200), True)
        self.assertIs(is_blocks_of(GRID, [(SMALL, SMALL, FALL)] * 201), False)
        self.assertIs(is_blocks_of(Grid.none(), []), True)
        self.assertIs(is_blocks_of(Grid.none(), [(None, None, Line())] * 201), False)
        self.assertIs(is_blocks_of(GRID, [(SMALL, None, FALL), (SMALL, None)]), False)
        self.assertIs(is_blocks_of(GRID, [[SMALL, None, FALL]]), False)
        parts = [(Line.of([start]), Line.of([end]), None) for start in range(6) for end in range(start)]
        self.assertIs(is_blocks_of(GRID, parts), True)
        for at in range(len(parts)):
            self.assertIs(is_blocks_of(GRID, parts[:at] + parts[at + 1:]), False)
        self.assertIs(is_blocks_of(GRID, parts + [(Line.of([FAR]), Line.of([FAR]), None)]), False)
        for value in ANY:
            self.assertIs(is_blocks_of(GRID, value), False)
        many = [(Line.of([k]), Line([(2 * k, None, 1, [0])]), None) for k in range(200)]
        grid = Grid(many)
        self.assertIs(is_blocks_of(grid, many[::-1]), True)
        self.assertIs(is_blocks_of(grid, many[1:]), False)

    def test_many_blocks(self):
        def points(low):
            return Grid([(Line.of([start]), Line.of([start * start]), None) for start in range(low, low + 200)])
        grids = [points(200 * k) for k in range(20)]
        whole = grids[0]
        for grid in grids[1:]:
            whole = whole | grid
        self.assertIs(all(whole.has(start, start * start) for start in range(0, 4000, 37)), True)
        self.assertEqual(len(whole.blocks()), 4000)
        with self.assertRaises(TooMany) as caught:
            whole | Grid([(Line.of([4000]), Line.of([7]), None)])
        self.assertEqual((caught.exception.what, caught.exception.limit), ("blocks", 4000))
        self.assertEqual((whole | grids[3]).at(601), Line.of([601 * 601]))

    def test_grids_of_many_parts(self):
        dice = random.Random(5)
        blocks = [(Line.of([dice.randint(0, 60)]), Line.of([dice.randint(0, 60)]), None) for _ in range(150)]
        more = [(Line([(k, None, 1, [0])]), Line([(0, 90 - k, 1, [0])]), Line([(None, 2 * k, 1, [0])])) for k in range(40)]
        one, two = Grid(blocks), Grid(more)
        ours, others = [{(n, m) for n in range(70) for m in range(70) if is_in(told, n, m)} for told in (blocks, more)]
        for made, pairs in ((one & two, ours & others), (one - two, ours - others), (two - one, others - ours), (one | two, ours | others)):
            self.assertEqual(pairs_of(made, 69), pairs)
        self.assertEqual(two.other().other(), two)
        self.assertEqual(one.parting(two), min(ours ^ others))

    def test_errors_of_a_grid(self):
        block = (SMALL, None, FALL)
        for value in [odd for odd in ANY if not isinstance(odd, (list, tuple))] + [{0: block}]:
            with self.assertRaises(InvalidBlocks) as caught:
                Grid(value)
            self.assertIsNone(caught.exception.position)
        for odd in ANY + [[SMALL, None, FALL], (SMALL, None), block + (None,), (SMALL, 0, FALL), (SMALL, None, [])]:
            for blocks, position in (([odd], 0), ((block, odd, odd), 1), ([block] * 200 + [odd], 200)):
                with self.assertRaises(InvalidBlocks) as caught:
                    Grid(blocks=blocks)
                self.assertEqual(caught.exception.position, position)
        with self.assertRaises(TooMany) as caught:
            Grid([block] * 201)
        self.assertEqual((caught.exception.what, caught.exception.limit), ("blocks", 200))
        self.assertEqual(Grid((block,) * 200), GRID)

    def test_errors_beside_a_grid(self):
        for odd in NO_GRIDS:
            for call in (lambda: GRID | odd, lambda: GRID & odd, lambda: GRID - odd, lambda: GRID.is_within(odd),
                         lambda: GRID.parting(grid=odd), lambda: within(odd, None, None), lambda: is_blocks_of(odd, None),
                         lambda: is_blocks_of(value=None, grid=odd)):
                with self.assertRaises(InvalidGrid) as caught:
                    call()
                self.assertIs(caught.exception.value, odd)
        for odd in NO_LINES + [GRID]:
            for call in (lambda: within(GRID, odd, None), lambda: within(GRID, SMALL, odd),
                         lambda: within(other=None, line=odd, grid=GRID)):
                with self.assertRaises(InvalidLine) as caught:
                    call()
                self.assertIs(caught.exception.value, odd)

    def test_errors_of_numbers(self):
        for odd in NO_COUNTS:
            for call in (lambda: GRID.has(odd, None), lambda: GRID.has(0, odd), lambda: GRID.at(odd),
                         lambda: GRID.has(end=odd, start=0), lambda: GRID.at(start=odd)):
                with self.assertRaises(InvalidMany) as caught:
                    call()
                self.assertIs(caught.exception.value, odd)
        for odd in NO_INTEGERS:
            for call in (lambda: GRID.shifted(odd, None), lambda: GRID.shifted(0, odd), lambda: GRID.shifted(second=odd, first=1)):
                with self.assertRaises(InvalidNumber) as caught:
                    call()
                self.assertIs(caught.exception.value, odd)

    def test_nothing_is_changed(self):
        blocks = [(SMALL, None, FALL), (None, COUNTS, Line.of([FAR]))]
        told = list(blocks)
        grid = Grid(blocks)
        pairs = pairs_of(grid, 9)
        for made in (grid | GRID, grid & GRID, grid - GRID, grid.other(), grid.turned(), grid.shifted(1, 2)):
            self.assertIsInstance(made, Grid)
        self.assertEqual((blocks, pairs_of(grid, 9)), (told, pairs))
        blocks.clear()
        self.assertEqual(pairs_of(grid, 9), pairs)

    def test_example(self):
        self.assertEqual([GRID.has(5, 4), GRID.has(6, 4), GRID.first(), GRID.at(3) == Line.of([0, 1, 2]), GRID.turned().first(),
                          GRID.other().each().least()], [True, False, (1, 0), True, (0, 1), 0])
        self.assertEqual([is_blocks_of(GRID, [(SMALL, SMALL, FALL)]), is_blocks_of(GRID, [(SMALL, None, None)]),
                          within(GRID, Line.of([4]), SMALL).some() == Line.of([4])], [True, False, True])


class Blocks(unittest.TestCase):
    def test_is_block(self):
        self.assertEqual([is_block((None, SMALL, None)), is_block([None, None, None]), is_block((SMALL, SMALL))],
                         [True, False, False])
        self.assertIs(is_block((None, None, None)), True)
        self.assertIs(is_block(value=(SMALL, FALL, SMALL)), True)
        for odd in ANY:
            self.assertIs(is_block(odd), False)
            for at in range(3):
                block = [None, SMALL, None]
                block[at] = odd
                self.assertIs(is_block(tuple(block)), odd is None or isinstance(odd, Line))
        self.assertIs(is_block((None, None, None, None)), False)
        self.assertIs(is_block((House(1, []), None, None)), False)
        self.assertIs(is_block((reach(House(1, []), 0, 0), None, None)), False)


if __name__ == "__main__":
    unittest.main()
