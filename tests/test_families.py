"""Point 62: Leasts, against worths looked at number by number."""

import random
import unittest

from lonetill.errors import InvalidFamilies, InvalidLeast, InvalidNumber, TooMany
from lonetill.families import Least
from lonetill.lines import Line
from tests.odd import ANY, NO_COUNTS, NO_INTEGERS

FAR = 10 ** 29
SOME = Least([(0, 2, 1, 3, None), (4, 1, 0, 0, 1)])
NO_LEASTS = [None, True, 0, [], (), [(0, 2, 1, 3, None)], (0, 2, 1, 3, None), Line(), {}, "least", Least]
NEAR = range(-60, 161)


def random_family(dice, wide=12, base=0):
    """A family about a base."""
    first, step = base + dice.randint(-wide, wide), dice.randint(1, dice.choice([3, 10]))
    many = dice.choice([None, 1, dice.randint(1, 8), dice.randint(1, 8)])
    if many is None:
        return (first, step, dice.randint(0, 12), dice.randint(0, 4), None)
    while True:
        price, more = dice.randint(0, 20), dice.randint(-4, 4)
        if price + (many - 1) * more >= 0:
            return (first, step, price, more, many)


def worth_told(families, number):
    """The least worth that the families tell at a number, as point 62 tells it."""
    told = []
    for first, step, price, more, many in families:
        rounds, rest = divmod(number - first, step)
        if rest == 0 and rounds >= 0 and (many is None or rounds < many):
            told.append(price + rounds * more)
    return min(told, default=None)


def nearest(numbers):
    return min(numbers, key=lambda number: (abs(number), number), default=None)


def cut_up(families, dice):
    """Families that tell the same by other ones."""
    out = []
    for first, step, price, more, many in families:
        if many is not None and many > 1:
            ahead = dice.randint(1, many - 1)
            out += [(first, step, price, more, ahead), (first + ahead * step, step, price + ahead * more, more, many - ahead)]
        elif many is None and step <= 5:
            out += [(first, 2 * step, price, 2 * more, None), (first + step, 2 * step, price + more, 2 * more, None)]
        else:
            out += [(first, step, price, more, many), (first, step, price + 1, more, many)]
    dice.shuffle(out)
    return out


class Families(unittest.TestCase):
    def test_against_numbers(self):
        for seed in range(200):
            dice = random.Random(seed)
            one = [random_family(dice) for _ in range(dice.randint(0, 5))]
            two = cut_up(one, dice) if seed % 3 == 0 else [random_family(dice) for _ in range(dice.randint(0, 5))]
            if seed % 6 == 0 and two:
                del two[0]
            left, right = Least(one), Least(two)
            ours = {number: worth_told(one, number) for number in NEAR}
            others = {number: worth_told(two, number) for number in NEAR}
            self.check_one(left, one, ours)
            both = left.least_of(right)
            for number in NEAR:
                told = [worth for worth in (ours[number], others[number]) if worth is not None]
                self.assertEqual(both.at(number), min(told, default=None))
            self.check_two(left, right, ours, others)

    def check_one(self, least, families, told):
        self.assertEqual({number: least.at(number) for number in NEAR}, told)
        self.assertEqual({number: least.line().has(number) for number in NEAR},
                         {number: told[number] is not None for number in NEAR})
        moved = least.moved(7).raised(3)
        for number in NEAR:
            self.assertEqual(moved.at(number + 7), None if told[number] is None else told[number] + 3)
        worths = [worth for worth in told.values() if worth is not None]
        right = (min(worths), nearest([number for number in NEAR if told[number] == min(worths)])) if worths else None
        self.assertEqual(least.cheapest(), right)
        self.assertEqual(Least(least.families()), least)
        self.assertEqual({number: worth_told(least.families(), number) for number in NEAR}, told)

    def check_two(self, left, right, ours, others):
        unlike = nearest([number for number in NEAR if ours[number] != others[number]])
        found = left.parting(right)
        # What is told alike so long, by steps up to 10, may part beyond.
        if unlike is not None and abs(unlike) <= 60:
            self.assertEqual(found, unlike)
        self.assertIs(left == right, found is None)
        self.assertIs(left != right, found is not None)
        self.assertEqual(right.parting(left), found)
        if found is not None:
            self.assertNotEqual(left.at(found), right.at(found))
        over = [number for number in NEAR if others[number] is not None and (ours[number] is None or ours[number] > others[number])]
        if over:
            self.assertIs(left.is_at_most(right), False)
        self.assertIs(left.is_at_most(right) and right.is_at_most(left), left == right)
        self.assertIs(left.least_of(right).is_at_most(left), True)
        self.assertIs(left.is_at_most(left.raised(1)), True)
        self.assertIs(left.raised(1).is_at_most(left), left.cheapest() is None)
        self.assertIs(left.is_at_most(right), left.least_of(right) == left)

    def test_at_most_number_by_number(self):
        for seed in range(200):
            dice = random.Random(seed)
            one = [random_family(dice, 4)[:4] + (dice.randint(1, 4),) for _ in range(3)]
            two = [random_family(dice, 4)[:4] + (dice.randint(1, 4),) for _ in range(2)]
            one, two = [[family for family in told if family[2] + (family[4] - 1) * family[3] >= 0] for told in (one, two)]
            right = all(worth_told(two, number) is None or (worth_told(one, number) is not None
                        and worth_told(one, number) <= worth_told(two, number)) for number in range(-60, 80))
            self.assertIs(Least(one).is_at_most(Least(two)), right)

    def test_far(self):
        for seed in range(60):
            dice = random.Random(seed)
            one = [random_family(dice, 9, dice.choice([0, FAR, -FAR])) for _ in range(dice.randint(1, 4))]
            two = cut_up(one, dice)
            left, right = Least(one), Least(two)
            self.assertEqual(left, right)
            self.assertIsNone(left.parting(right))
            number = dice.choice([-FAR, 0, FAR]) + dice.randint(-9, 9)
            spoilt = left.least_of(Least([(number, 1, 0, 0, 1)]))
            self.assertEqual(left.parting(spoilt), None if left.at(number) == 0 else number)
            for number in [base + more for base in (-FAR, FAR, 2 * FAR, 10 ** 30) for more in range(-3, 12)]:
                self.assertEqual(left.at(number), worth_told(one, number))
                self.assertEqual(left.line().has(number), left.at(number) is not None)

    def test_where_slopes_cross(self):
        # Two families, one dear at first, the other later: they cross at a number of thirty digits.
        slow, fast = Least([(0, 1, FAR, 1, None)]), Least([(0, 1, 0, 2, None)])
        self.assertEqual(fast.parting(slow), 0)
        self.assertIs(fast.is_at_most(slow), False)
        both = slow.least_of(fast)
        self.assertEqual([both.at(number) for number in (5, FAR, FAR + 1)], [10, 2 * FAR, 2 * FAR + 1])
        self.assertEqual(both.parting(fast), FAR + 1)
        self.assertIs(both.is_at_most(fast), True)
        self.assertIs(both.is_at_most(slow), True)
        cut = Least([(0, 1, 0, 2, FAR + 1), (FAR, 1, 2 * FAR, 1, None)])
        self.assertEqual(cut, both)
        self.assertEqual(Least([(0, 1, 0, 2, FAR), (FAR + 1, 1, 2 * FAR + 1, 1, None)]).parting(both), FAR)
        falling = Least([(0, 1, FAR, -1, FAR + 1)])
        self.assertEqual(falling.cheapest(), (0, FAR))
        self.assertEqual(falling.least_of(Least([(0, 1, 0, 1, None)])).at(FAR // 2), FAR // 2)
        self.assertIs(Least([(0, 1, 0, 0, None)]).is_at_most(falling), True)

    def test_steps_together(self):
        whole = Least([(0, 1, 5, 0, None)])
        for step in range(1, 11):
            parts = Least([(first, step, 5, 0, None) for first in range(step)])
            self.assertEqual(parts, whole)
            self.assertEqual(Least([(first, step, 5, 0, None) for first in range(step - 1)]).parting(whole), step - 1)
        mixed = Least([(0, 2, 5, 0, None), (1, 6, 5, 0, None), (3, 6, 5, 0, None), (5, 6, 5, 0, None)])
        self.assertEqual(mixed, whole)
        self.assertEqual(Least([(0, 7, 0, 0, None), (0, 10, 0, 0, None), (0, 9, 0, 0, None), (0, 8, 0, 0, None)]).line().has(9 * 8 * 5), True)

    def test_cheapest(self):
        self.assertIsNone(Least().cheapest())
        self.assertEqual(Least([(-7, 2, 3, 0, None)]).cheapest(), (3, -1))
        self.assertEqual(Least([(-8, 4, 3, 0, None)]).cheapest(), (3, 0))
        self.assertEqual(Least([(-8, 3, 3, 0, 2)]).cheapest(), (3, -5))
        self.assertEqual(Least([(5, 3, 3, 0, None), (-5, 1, 3, 0, 1)]).cheapest(), (3, -5))
        self.assertEqual(Least([(5, 3, 3, 1, None), (2, 3, 9, -3, 3)]).cheapest(), (3, 5))
        self.assertEqual(Least([(2, 3, 9, -3, 4)]).cheapest(), (0, 11))
        self.assertEqual(Least([(2, 3, 9, -3, 1)]).cheapest(), (9, 2))

    def test_ties_of_parting(self):
        flat = Least([(-4, 1, 5, 0, 9)])
        holes = Least([(-4, 1, 5, 0, 1), (-2, 1, 5, 0, 5), (4, 1, 5, 0, 1)])
        self.assertEqual(flat.parting(holes), -3)
        self.assertEqual(holes.parting(Least()), -1 if holes.at(0) is None else 0)
        self.assertEqual(Least().parting(Least()), None)

    def test_two_thousand(self):
        families = [(3 * k, 1, 5, 0, 1) for k in range(2000)]
        least = Least(families)
        self.assertEqual(least, Least(families[::-1]))
        self.assertEqual(least, Least([(0, 3, 5, 0, 2000)]))
        self.assertEqual(least.parting(Least(families[1:])), 0)
        with self.assertRaises(TooMany) as caught:
            Least(families + [(0, 1, 5, 0, 1)])
        self.assertEqual((caught.exception.what, caught.exception.limit), ("families", 2000))
        with self.assertRaises(InvalidFamilies) as caught:
            Least(families + [None])
        self.assertEqual(caught.exception.position, 2000)

    def test_errors(self):
        right = (0, 2, 1, 3, None)
        for odd in [value for value in ANY if not isinstance(value, (list, tuple))] + [{0: right}]:
            with self.assertRaises(InvalidFamilies) as caught:
                Least(families=odd)
            self.assertIsNone(caught.exception.position)
        wrong = ANY + [list(right), right[:4], right + (1,), (0, 0, 1, 3, None), (0, 11, 1, 3, None), (0, -1, 1, 3, None),
                       (0, 2, -1, 3, None), (0, 2, 1, -1, None), (0, 2, 5, -3, 3), (0, 2, 1, 3, 0), (0, 2, 1, 3, -1)]
        for at in range(5):
            for odd in NO_INTEGERS:
                if at < 4 or odd is not None:
                    wrong.append(right[:at] + (odd,) + right[at + 1:])
        for odd in wrong:
            for families, position in (([odd], 0), ((right, odd, odd), 1)):
                with self.assertRaises(InvalidFamilies) as caught:
                    Least(families)
                self.assertEqual(caught.exception.position, position, odd)
        Least([(-FAR, 10, 6, -3, 3), (FAR, 1, 0, 0, None)])

    def test_errors_beside(self):
        for odd in NO_LEASTS:
            for call in (lambda: SOME.least_of(odd), lambda: SOME.is_at_most(odd), lambda: SOME.parting(odd),
                         lambda: SOME.parting(other=odd), lambda: SOME.is_at_most(other=odd), lambda: SOME.least_of(other=odd)):
                with self.assertRaises(InvalidLeast) as caught:
                    call()
                self.assertIs(caught.exception.value, odd)
            self.assertIs(SOME == odd, False)
            self.assertIs(SOME != odd, True)
        for odd in NO_INTEGERS:
            for call in (lambda: SOME.at(odd), lambda: SOME.moved(odd), lambda: SOME.at(number=odd), lambda: SOME.moved(number=odd)):
                with self.assertRaises(InvalidNumber) as caught:
                    call()
                self.assertIs(caught.exception.value, odd)
        for odd in NO_COUNTS:
            with self.assertRaises(InvalidNumber) as caught:
                SOME.raised(number=odd)
            self.assertIs(caught.exception.value, odd)

    def test_nothing_is_changed(self):
        families = [(0, 2, 1, 3, None), (4, 1, 0, 0, 1)]
        least = Least(families)
        families.clear()
        self.assertEqual(least, SOME)
        least.families().clear()
        self.assertEqual(least, SOME)
        for made in (least.moved(1), least.raised(1), least.least_of(SOME)):
            self.assertIsInstance(made, Least)
        self.assertEqual(least, SOME)
        self.assertEqual((Least(), Least(()).families()), (Least([]), []))

    def test_example(self):
        self.assertEqual([SOME.at(2), SOME.at(4), SOME.at(5), SOME.cheapest(), SOME.moved(-1).at(5)], [4, 0, None, (0, 4), 10])


if __name__ == "__main__":
    unittest.main()
