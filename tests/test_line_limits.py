"""Point 18: what is made of short lines never comes to a TooMany."""

import random
import unittest

from lonetill.errors import TooMany
from lonetill.lines import Line

FAR = 10 ** 29
CLUSTERS = [[0], [0, 90, -7], [FAR], [-FAR, 5, 30000, FAR], [0, 20000, 40000], [10 ** 20, 10 ** 20 + 100, 3 - FAR]]


def short_line(dice, period, marks):
    """A line that is short by the period: rests between the marks, any numbers near them."""
    marks = sorted(marks)
    stretches = []
    for low, behind in zip([None] + marks, marks + [None]):
        own = dice.choice([step for step in range(1, period + 1) if period % step == 0])
        rests = sorted(dice.sample(range(own), dice.randint(0, own)))
        if rests:
            stretches.append((low, None if behind is None else behind - 1, own, rests))
    line = Line(stretches)
    for mark in marks:
        near = Line([(mark - 1000, mark + 1000, 1, [0])])
        some = Line.of([mark + dice.randint(-1000, 1000) for _ in range(200)])
        more = Line.of([mark + dice.randint(-1000, 1000) for _ in range(200)])
        line = dice.choice([line | some, line - some, (line - near) | some | more, line - near])
    return line


def has_by_walking(one, two, number, ends):
    """Whether the number is a sum, y being looked for about all ends of both lines."""
    for end in ends:
        for x in range(end - 2200, end + 2200):
            if one.has(x) and two.has(number - x) or two.has(x) and one.has(number - x):
                return True
    return False


class ShortLines(unittest.TestCase):
    def test_never_too_many(self):
        dice = random.Random(7)
        for round_ in range(60):
            period = dice.choice([1, 2, 7, 12, 30, 59, 60])
            marks = dice.choice(CLUSTERS)
            one, two = short_line(dice, period, marks), short_line(dice, period, marks)
            both, shared, less = one | two, one & two, one - two
            for mark in marks:
                for number in [mark + dice.randint(-1500, 1500) for _ in range(40)]:
                    self.assertEqual(both.has(number), one.has(number) or two.has(number))
                    self.assertEqual(shared.has(number), one.has(number) and two.has(number))
                    self.assertEqual(less.has(number), one.has(number) and not two.has(number))
                    self.assertEqual(one.other().has(number), not one.has(number))
            for made in (both, shared, less, one.other(), one.mirrored(), one.shifted(3), one.part(-5, FAR)):
                self.assertLessEqual(len(made.stretches()), 400)
            self.assertEqual((one - two) | (two - one), both - shared)
            self.assertTrue(shared.is_within(one) and one.is_within(both))

    def test_sums(self):
        dice = random.Random(8)
        for marks in CLUSTERS[:3]:
            one, two = short_line(dice, 6, marks), short_line(dice, 6, marks)
            sums, less = one.sums(two), one.differences(two)
            for number in [marks[0] * 2 + dice.randint(-2500, 2500) for _ in range(30)]:
                self.assertEqual(sums.has(number), has_by_walking(one, two, number, marks))
            self.assertEqual(less, one.sums(two.mirrored()))

    def test_finite_sums(self):
        dice = random.Random(9)
        for _ in range(10):
            xs = [dice.randint(-1000, 1000) for _ in range(200)]
            ys = [FAR + dice.randint(-1000, 1000) for _ in range(200)]
            self.assertTrue(Line.of(xs).sums(Line.of(ys)).has(xs[0] + ys[5]))
            made = Line.of(xs).sums(Line.of(ys))
            self.assertEqual(made.many_all(), len({x + y for x in xs for y in ys}))

    def test_great_periods(self):
        line = Line([(0, None, 2520, [0, 2519])])
        self.assertEqual(line.tail(), (0, 2520, [0, 2519]))
        with self.assertRaises(TooMany) as caught:
            Line([(0, None, 2520, [0])]) | Line([(0, None, 2519, [0])])
        self.assertEqual((caught.exception.what, caught.exception.limit), ("period", 2520))
        self.assertTrue(line == Line([(0, None, 2520, [0, 2519])]))

    def test_many_stretches(self):
        lots = [Line.of([9000 * k * k * k + 1000 * part for k in range(40, 240)]) for part in (1, 2, 3)]
        self.assertEqual((lots[0] | lots[1]).many_all(), 400)
        self.assertLessEqual(len((lots[0] | lots[1]).stretches()), 400)
        far = [Line.of([3 * 10 ** 5 * k + 10 ** 5 * part for k in range(200)]) for part in (1, 2, 3)]
        self.assertEqual(len((far[0] | far[1]).stretches()), 400)
        with self.assertRaises(TooMany) as caught:
            far[0] | far[1] | far[2]
        self.assertEqual((caught.exception.what, caught.exception.limit), ("stretches", 400))
        self.assertEqual((far[0] | far[1]).parting(far[1]), 10 ** 5)

    def test_great_periods_are_still_compared(self):
        one, two = Line([(0, None, 2520, [0])]), Line([(0, None, 2519, [0])])
        self.assertIs(one == two, False)
        self.assertEqual(one.parting(two), 2519)
        self.assertIs(one.is_within(two), False)


if __name__ == "__main__":
    unittest.main()
