"""Point 24: the lengths of walks, against walks counted step by step."""

import random
import unittest

from lonetill.errors import InvalidPairs, InvalidPlace
from lonetill.lines import Line
from lonetill.walks import walk_line
from tests.odd import NO_COUNTS

FAR = 10 ** 29


def walked(pairs, place, goal, most):
    """The lengths up to most of walks, step by step."""
    now, out = {place}, set()
    for steps in range(most + 1):
        if goal in now:
            out.add(steps)
        now = {two for one, two in pairs if one in now}
    return out


def power_has(pairs, place, goal, steps):
    """Whether a walk of so many steps leads there, by powers of the pairs."""
    now, power = {place}, set(pairs)
    while steps > 0:
        if steps % 2 == 1:
            now = {two for one, two in power if one in now}
        power = {(one, end) for one, two in power for begin, end in power if begin == two}
        steps //= 2
    return goal in now


def rings(*sizes):
    """Rings of so many places each, one beside another, and a way from each to the next one."""
    pairs, first = [], 0
    for size in sizes:
        pairs += [(first + k, first + (k + 1) % size) for k in range(size)]
        if first > 0:
            pairs.append((first - 1, first))
        first += size
    return sorted(set(pairs))


SETS = [[], [(0, 0)], [(0, 1), (1, 2), (2, 0), (1, 0)], rings(4, 5, 7), rings(16), rings(3, 13), rings(2, 3, 11),
        rings(16) + [(14, 0)], rings(7, 9) + [(15, 0)], [(k, k + 1) for k in range(15)]]


class Walks(unittest.TestCase):
    def check(self, pairs, place, goal, most):
        line = walk_line(pairs, place, goal)
        self.assertEqual({k for k in range(-3, most + 1) if line.has(k)}, walked(pairs, place, goal, most))
        self.assertIs(line.is_within(Line.counts()), True)

    def test_against_steps(self):
        for pairs in SETS:
            for place, goal in ((0, 0), (0, 3), (1, 15), (15, 0), (5, 5), (0, 15)):
                self.check(pairs, place, goal, 700)

    def test_random_pairs(self):
        dice = random.Random(4)
        for _ in range(150):
            places = dice.randint(1, 16)
            pairs = sorted({(dice.randrange(places), dice.randrange(places)) for _ in range(dice.randint(0, 22))})
            dice.shuffle(pairs)
            self.check(pairs, dice.randrange(places), dice.randrange(places), 300)

    def test_great_lengths(self):
        dice = random.Random(6)
        for pairs in SETS:
            for _ in range(12):
                place, goal = dice.randrange(16), dice.randrange(16)
                steps = FAR + dice.randint(-500, 500)
                self.assertEqual(walk_line(pairs, place, goal).has(steps), power_has(pairs, place, goal, steps))

    def test_periods(self):
        self.assertEqual(walk_line(rings(16), 0, 5), Line([(5, None, 16, [5])]))
        self.assertEqual(walk_line([], 3, 3), Line.of([0]))
        self.assertTrue(walk_line([(3, 4)], 4, 3).is_empty)
        self.assertEqual(walk_line([(0, 1), (1, 2), (2, 3)], place=0, goal=3), Line.of([3]))

    def test_sequence_and_kind_of_the_list(self):
        pairs = rings(4, 5, 7)
        self.assertEqual(walk_line(pairs, 0, 15), walk_line(tuple(pairs[::-1]), 0, 15))
        self.assertEqual(pairs, rings(4, 5, 7))

    def test_all_pairs(self):
        pairs = [(one, two) for one in range(16) for two in range(12)]
        self.assertEqual(walk_line(pairs, 15, 11), Line([(1, None, 1, [0])]))

    def test_errors(self):
        for value in [None, 7, "ab", {}, {(0, 1)}, [None], [0], [[0, 1]], [(0,)], [(0, 1, 2)], [(0, 16)], [(-1, 0)],
                      [(True, 0)], [(0, False)], [(0, None)], [("0", 1)], [(0, 1), (0, 1)], [(0, 1), (0, "1")],
                      [([0], 1)], [(0, 1), None]]:
            with self.assertRaises(InvalidPairs) as caught:
                walk_line(value, None, None)
            self.assertIs(caught.exception.value, value)
        for value in NO_COUNTS + [16, FAR]:
            for act in (lambda: walk_line([], value, None), lambda: walk_line(goal=value, place=15, pairs=[])):
                with self.assertRaises(InvalidPlace) as caught:
                    act()
                self.assertIs(caught.exception.value, value)

    def test_examples(self):
        self.assertTrue(walk_line([(0, 1), (1, 2), (2, 0), (1, 0)], 0, 1) == Line([(1, None, 1, [0])]) - Line.of([2]))


if __name__ == "__main__":
    unittest.main()
