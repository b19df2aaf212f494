"""Points 11 to 17: lines, their operators and methods, against numbers told one by one."""

import random
import unittest

from lonetill.errors import InvalidLine, InvalidMany, InvalidNumber, InvalidNumbers, InvalidStretches, TooMany
from lonetill.lines import Line
from tests.odd import NO_INTEGERS, NO_LINES
from tests.walked import numbers_of

FAR = 10 ** 29
WIDE = 400


def random_stretch(dice):
    """A stretch with ends from -40 to 40, or without."""
    low, high = dice.choice([None, dice.randint(-40, 40)]), dice.choice([None, dice.randint(-40, 40)])
    if low is not None and high is not None and low > high:
        low, high = high, low
    period = dice.choice([1, 2, 3, 4, 5, 6, 8, 12])
    return (low, high, period, sorted(dice.sample(range(period), dice.randint(1, period))))


def told(stretches, wide=WIDE):
    """The set of the numbers of the stretches from -wide to wide, as point 11 tells them."""
    out = set()
    for low, high, period, rests in stretches:
        first = -wide if low is None else max(low, -wide)
        last = wide if high is None else min(high, wide)
        out |= {number for number in range(first, last + 1) if number % period in rests}
    return out


def near(numbers, wide):
    """Those of the numbers that are from -wide to wide."""
    return {number for number in numbers if -wide <= number <= wide}


def random_pairs(many, seed):
    """Pairs of (stretches, Line) twice."""
    dice = random.Random(seed)
    for _ in range(many):
        one = [random_stretch(dice) for _ in range(dice.randint(0, 4))]
        two = [random_stretch(dice) for _ in range(dice.randint(0, 3))]
        yield dice, told(one), Line(one), told(two), Line(two)


class Stretches(unittest.TestCase):
    def test_rests_below_nothing(self):
        line = Line([(None, None, 5, [1, 3])])
        for number in (-9, -7, -4, -2, 1, 3, FAR + 1, 3 - FAR):
            self.assertIs(line.has(number), True)
        for number in (-3, -1, 0, FAR, -FAR):
            self.assertIs(line.has(number), False)

    def test_valid_ones(self):
        for stretch in [(0, 0, 1, [0]), (None, None, 2520, [2519]), (-FAR, FAR, 3, (0, 2)), (5, None, 1, (0,)),
                        (None, -5, 2, [0, 1]), (1, 1, 2, [0])]:
            self.assertIsInstance(Line([stretch]), Line)
            self.assertIsInstance(Line(stretches=(stretch, stretch)), Line)
        self.assertTrue(Line([(1, 1, 2, [0])]).is_empty)

    def test_invalid_ones(self):
        wrong = [None, 7, "abcd", [0, 1, 1, [0]], (0, 1, 1), (0, 1, 1, [0], 0), (True, 1, 1, [0]), (0, False, 1, [0]),
                 ("0", 1, 1, [0]), (0, [], 1, [0]), (2, 1, 1, [0]), (0, 1, 0, [0]), (0, 1, -1, [0]),
                 (0, 1, 2521, [0]), (0, 1, True, [0]), (0, 1, None, [0]), (0, 1, 2, []), (0, 1, 2, None),
                 (0, 1, 2, [2]), (0, 1, 2, [-1]), (0, 1, 3, [1, 0]), (0, 1, 3, [1, 1]), (0, 1, 2, [True]),
                 (0, 1, 2, [0, True]), (0, 1, 2, "01"), (0, 1, 2, {0: 0}), (0, 1, 2, 0), ()]
        for value in wrong:
            for position in (0, 1, 3):
                stretches = [(0, 9, 3, [1])] * position + [value, None]
                with self.assertRaises(InvalidStretches) as caught:
                    Line(stretches)
                self.assertEqual(caught.exception.position, position, value)

    def test_no_list(self):
        for value in (None, 7, True, "", "abc", {}, {0: 1}, (x for x in ())):
            with self.assertRaises(InvalidStretches) as caught:
                Line(value)
            self.assertIsNone(caught.exception.position)

    def test_too_many(self):
        self.assertEqual(Line([(0, 1, 1, [0])] * 200), Line.of([0, 1]))
        with self.assertRaises(TooMany) as caught:
            Line([(0, 1, 1, [0])] * 201)
        self.assertEqual((caught.exception.what, caught.exception.limit), ("stretches", 200))
        with self.assertRaises(InvalidStretches) as caught:
            Line([(0, 1, 1, [0])] * 200 + [(1, 0, 1, [0])])
        self.assertEqual(caught.exception.position, 200)

    def test_passed_lists_stay_and_may_change(self):
        rests = [0, 1]
        stretches = [(0, None, 3, rests)]
        line = Line(stretches)
        self.assertEqual(stretches, [(0, None, 3, [0, 1])])
        rests.append(2)
        stretches.append((-5, -5, 1, [0]))
        self.assertFalse(line.has(2) or line.has(-5))
        line.stretches()[0][3].append(7)
        line.stretches().append(None)
        line.tail()[2].append(7)
        self.assertEqual((line.tail(), line.stretches()), ((-1, 3, [0, 1]), [(0, None, 3, [0, 1])]))


class Operators(unittest.TestCase):
    def test_all_against_numbers(self):
        whole = set(range(-WIDE, WIDE + 1))
        for dice, these, line, those, other in random_pairs(150, 1):
            self.assertEqual(numbers_of(line, -WIDE, WIDE), these)
            self.assertEqual(numbers_of(line | other, -WIDE, WIDE), these | those)
            self.assertEqual(numbers_of(line & other, -WIDE, WIDE), these & those)
            self.assertEqual(numbers_of(line - other, -WIDE, WIDE), these - those)
            self.assertEqual(numbers_of(line.other(), -WIDE, WIDE), whole - these)
            self.assertEqual((line == other, line.is_within(other)), (these == those, these <= those))
            self.assertEqual(line.is_empty, not these)
            self.assertEqual(told(line.stretches()), these)

    def test_shifted_mirrored_part(self):
        for dice, these, line, _, _ in random_pairs(100, 2):
            by = dice.choice([0, 7, -50, FAR, -FAR])
            moved = line.shifted(by)
            self.assertEqual({x for x in range(-99, 100) if moved.has(x + by)}, near(these, 99))
            self.assertEqual(numbers_of(line.mirrored(), -99, 99), {-x for x in near(these, 99)})
            low, high = dice.choice([None, dice.randint(-60, 60)]), dice.choice([None, dice.randint(-60, 60)])
            within = {x for x in these if (low is None or x >= low) and (high is None or x <= high)}
            self.assertEqual(numbers_of(line.part(low, high), -WIDE, WIDE), within)
        self.assertTrue(Line.every().part(1, 0).is_empty)
        self.assertEqual(Line.every().part(None, None), Line.every())
        self.assertEqual(Line.every().part(low=-FAR, high=-FAR), Line.of([-FAR]))

    def test_sums_and_differences(self):
        for _, these, line, those, other in random_pairs(40, 3):
            sums = {x + y for x in these for y in those}
            less = {x - y for x in these for y in those}
            self.assertEqual(numbers_of(line.sums(other), -100, 100), near(sums, 100))
            self.assertEqual(numbers_of(line.differences(other), -100, 100), near(less, 100))

    def test_sums_of_two_stretches(self):
        dice = random.Random(12)
        for _ in range(250):
            one, two = random_stretch(dice), random_stretch(dice)
            sums = {x + y for x in told([one], 250) for y in told([two], 250)}
            less = {x - y for x in told([one], 250) for y in told([two], 250)}
            self.assertEqual(numbers_of(Line([one]).sums(Line([two])), -100, 100), near(sums, 100), (one, two))
            self.assertEqual(numbers_of(Line([one]).differences(Line([two])), -100, 100), near(less, 100), (one, two))

    def test_sums_of_long_stretches(self):
        dice = random.Random(13)
        for _ in range(60):
            rows = []
            for length in (FAR, dice.choice([FAR, 3 * FAR, 10 ** 6, 700, 3])):
                low = dice.randint(-FAR, FAR)
                _, _, period, rests = random_stretch(dice)
                rows.append((low, low + length, period, rests))
            (low, high, _, _), (first, last, _, _) = rows
            one, two = Line(rows[:1]), Line(rows[1:])
            sums = one.sums(two)
            for number in [low + first + k for k in range(50)] + [low + first + 10 ** 9 + k for k in range(12)]:
                known = any(one.has(x) and two.has(number - x) for x in range(low, low + 60))
                known = known or any(two.has(x) and one.has(number - x) for x in range(first, first + 60))
                self.assertEqual(sums.has(number), known, (rows, number))
            for number in [high + last - k for k in range(50)]:
                known = any(one.has(x) and two.has(number - x) for x in range(high - 60, high + 1))
                self.assertEqual(sums.has(number), known, (rows, number))
            self.assertEqual(sums, two.sums(one))
            self.assertEqual(sums.differences(Line.of([5])), sums.shifted(-5))

    def test_known_sums(self):
        fours, sixes = Line([(0, None, 4, [0])]), Line([(0, None, 6, [0])])
        self.assertEqual(fours.sums(sixes), Line([(0, None, 2, [0])]) - Line.of([2]))
        self.assertEqual(fours.differences(sixes), Line([(None, None, 2, [0])]))
        self.assertTrue(Line().sums(Line.every()).is_empty)
        self.assertTrue(Line.every().differences(line=Line()).is_empty)
        self.assertEqual(Line.of([FAR]).sums(Line.of([FAR, -FAR])), Line.of([0, 2 * FAR]))

    def test_no_line_on_the_right(self):
        for value in NO_LINES:
            for act in (lambda: Line() | value, lambda: Line() & value, lambda: Line.every() - value,
                        lambda: Line().sums(value), lambda: Line().differences(line=value),
                        lambda: Line().parting(value), lambda: Line().is_within(value)):
                with self.assertRaises(InvalidLine) as caught:
                    act()
                self.assertIs(caught.exception.value, value)

    def test_equality(self):
        line = Line([(0, None, 3, [0, 1])])
        told_apart = Line([(0, 1, 1, [0]), (2, 9, 3, [0, 1]), (10, None, 6, [0, 1, 3, 4])])
        self.assertTrue(line == told_apart)
        self.assertFalse(line != told_apart)
        self.assertIs(line == Line([(0, None, 3, [0, 2])]), False)
        for value in NO_LINES:
            self.assertIs(line == value, False)
            self.assertIs(line != value, True)

    def test_nothing_changes(self):
        line, other = Line([(0, None, 3, [0, 1])]), Line([(None, 5, 2, [1])])
        for made in (line | other, line & other, line - other, line.other(), line.shifted(3), line.mirrored(),
                     line.part(1, 2), line.sums(other), line.differences(other)):
            self.assertIsInstance(made, Line)
        self.assertEqual(line, Line([(0, None, 3, [0, 1])]))
        self.assertEqual(other, Line([(None, 5, 2, [1])]))


class Asked(unittest.TestCase):
    def test_against_numbers(self):
        for dice, these, line, those, other in random_pairs(150, 4):
            low, high = dice.randint(-90, 90), dice.randint(-90, 90)
            self.assertEqual(line.next_from(low), min([x for x in these if x >= low], default=None))
            self.assertEqual(line.last_to(low), max([x for x in these if x <= low], default=None))
            self.assertEqual(line.many_from(low, high), len([x for x in these if low <= x <= high]))
            down, up = any(x < -200 for x in these), any(x > 200 for x in these)
            self.assertEqual(line.least(), None if down or not these else min(these))
            self.assertEqual(line.greatest(), None if up or not these else max(these))
            self.assertEqual(line.many_all(), None if down or up else len(these))
            unlike = sorted(these ^ those, key=lambda x: (abs(x), x))
            self.assertEqual(line.parting(other), unlike[0] if unlike else None)

    def test_far_numbers(self):
        line = Line([(5 - FAR, FAR, 7, [3])])
        self.assertEqual(line.has(line.next_from(0)), True)
        self.assertEqual(line.many_all(), line.many_from(-2 * FAR, 2 * FAR))
        self.assertEqual(line.many_all(), (line.greatest() - line.least()) // 7 + 1)
        self.assertEqual((line.least() % 7, line.greatest() % 7), (3, 3))
        self.assertEqual(line.parting(line | Line.of([-FAR])), -FAR)
        self.assertEqual(Line.counts().many_from(-FAR, FAR), FAR + 1)
        self.assertEqual(line.last_to(2 * FAR), line.greatest())
        self.assertIsNone(line.next_from(number=FAR + 1))

    def test_parting_takes_the_lesser(self):
        self.assertEqual(Line.of([-3, 3]).parting(Line()), -3)
        self.assertEqual(Line.of([-4, 3]).parting(line=Line()), 3)
        self.assertIsNone(Line().parting(Line()))

    def test_tails(self):
        self.assertEqual(Line().tail(), (None, 1, []))
        self.assertEqual(Line.every().tail(), (None, 1, [0]))
        self.assertEqual(Line.counts().tail(), (0, 1, [0]))
        self.assertEqual(Line.of([-9, FAR]).tail(), (FAR + 1, 1, []))
        self.assertEqual(Line([(None, 7, 5, [1])]).tail(), (7, 1, []))
        self.assertEqual(Line([(None, 4, 2, [1]), (5, None, 6, [1, 3, 5])]).tail(), (None, 2, [1]))
        self.assertEqual(Line([(-8, None, 6, [2])]).tail(), (-9, 6, [2]))
        self.assertEqual(Line([(9, None, 4, [0]), (9, None, 6, [0])]).tail(), (9, 12, [0, 4, 6, 8]))

    def test_tails_against_numbers(self):
        for _, these, line, _, _ in random_pairs(60, 5):
            low, period, rests = line.tail()
            for number in range(-200 if low is None else max(low, -200), 200):
                self.assertEqual(number in these, number % period in rests)
            if low is not None:
                self.assertNotEqual(low - 1 in these, (low - 1) % period in rests)
            for less in range(1, period):
                self.assertTrue(any((x in these) != (x + less in these) for x in range(100, 100 + 2 * period)))

    def test_stretches_are_rising_and_apart(self):
        for _, _, line, _, other in random_pairs(60, 6):
            for made in (line, line | other, line - other, line.other()):
                rows = made.stretches()
                self.assertIsInstance(rows, list)
                self.assertEqual(Line(rows), made)
                for below, above in zip(rows, rows[1:]):
                    self.assertLess(below[1], above[0])
        self.assertEqual(Line().stretches(), [])

    def test_made_of_numbers(self):
        self.assertEqual(numbers_of(Line.of((3, -2, 3, 0)), -9, 9), {-2, 0, 3})
        self.assertEqual(Line.of(numbers=[]), Line())
        numbers = [k * k * k - 10 ** 6 for k in range(200)]
        self.assertEqual(Line.of(numbers).many_all(), 200)
        self.assertEqual(numbers[:2], [-10 ** 6, 1 - 10 ** 6])
        self.assertEqual((Line.every().least(), Line.counts().least()), (None, 0))
        for value in (None, 5, "12", {1: 2}, [True], [0, None], [0, "1"], (1, False), [[1]]):
            with self.assertRaises(InvalidNumbers) as caught:
                Line.of(value)
            self.assertIs(caught.exception.value, value)

    def test_no_integers(self):
        line = Line.counts()
        for value in NO_INTEGERS:
            for act in (lambda: line.has(value), lambda: line.shifted(number=value), lambda: line.next_from(value),
                        lambda: line.last_to(value), lambda: line.many_from(value, None),
                        lambda: line.many_from(low=0, high=value)):
                with self.assertRaises(InvalidNumber) as caught:
                    act()
                self.assertIs(caught.exception.value, value)
            if value is not None:
                for act in (lambda: line.part(value, "x"), lambda: line.part(None, value)):
                    with self.assertRaises(InvalidNumber) as caught:
                        act()
                    self.assertIs(caught.exception.value, value)
        self.assertFalse(issubclass(InvalidNumber, InvalidMany))

    def test_methods_stand_in_the_class(self):
        names = """has other shifted mirrored part sums differences least greatest next_from last_to many_from many_all
            tail parting is_within stretches of every counts __or__ __and__ __sub__ __eq__ is_empty""".split()
        for name in names:
            self.assertIn(name, vars(Line))

    def test_examples(self):
        fours, sixes = Line([(0, None, 4, [0])]), Line([(0, None, 6, [0])])
        self.assertEqual([fours.sums(sixes).tail(), fours.sums(sixes).has(2), (fours & sixes).next_from(25),
                          (fours - sixes).many_from(0, 30)], [(3, 2, [0]), False, 36, 5])


if __name__ == "__main__":
    unittest.main()
