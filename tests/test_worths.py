"""Point 66: worths, and what they show."""

import random
import unittest

from lonetill.errors import InvalidMany, InvalidPlace, InvalidPrices, TooMany
from lonetill.families import Least
from lonetill.houses import House
from lonetill.least import least_price, price_from
from lonetill.lines import Line
from lonetill.worths import is_worths, least_worths, tells_dear
from tests.odd import ANY, NO_COUNTS
from tests.priced import priced_house
from tests.test_families import cut_up, random_family
from tests.test_prices import HOUSE, NO_PRICES, PRICES

FAR = 10 ** 29
FREE = Least([(0, 1, 0, 0, None)])
NOTHING = {0: FREE, 1: FREE}


def worths_by_steps(house, prices, place, start, value, most):
    """Whether worths hold, looked at number by number up to most."""
    if value[place].at(start) != 0:
        return False
    for (begin, change, goal, when), price in zip(house.deeds(), prices):
        for number in range(1 if when == "empty" else most + 1):
            worth = value[begin].at(number)
            if worth is not None and number + change >= 0:
                behind = value[goal].at(number + change)
                if behind is None or behind > worth + price:
                    return False
    return True


def spoilt(least, number, worth):
    """The Least with another worth at a number, or none."""
    families = []
    for first, step, price, more, many in least.families():
        at, rest = divmod(number - first, step)
        if rest or at < 0 or (many is not None and at >= many):
            families.append((first, step, price, more, many))
            continue
        if at > 0:
            families.append((first, step, price, more, at))
        if many is None or at + 1 < many:
            families.append((first + (at + 1) * step, step, price + (at + 1) * more, more, None if many is None else many - at - 1))
    return Least(families + ([] if worth is None else [(number, 1, worth, 0, 1)]))


class Worths(unittest.TestCase):
    def test_least_worths(self):
        for seed in range(30):
            house, prices = priced_house(seed, 1 + seed % 5, (9, 1000)[seed // 5 % 2])
            place = seed % house.places
            for start in (2, FAR):
                found = least_worths(house, prices, place, start)
                self.assertEqual(found, price_from(house, prices, place, start))
                self.assertEqual(list(found), list(range(house.places)))
                self.assertIs(is_worths(house, prices, place, start, found), True)
                for goal in range(house.places):
                    for end in (0, 4, FAR):
                        price = least_price(house, prices, place, start, goal, end)
                        for many in (0, 5, 10 ** 9, FAR):
                            self.assertIs(tells_dear(house, prices, place, start, goal, end, many, found), price is None or price >= many)
                        if price is not None:
                            self.assertIs(tells_dear(house, prices, place, start, goal, end, price, found), True)
                            self.assertIs(tells_dear(house, prices, place, start, goal, end, price + 1, found), False)

    def test_spoilt_in_one_place(self):
        many = 0
        for seed in range(80):
            house, prices = priced_house(seed, 1 + seed % 3)
            dice = random.Random(seed)
            place, start = dice.randrange(house.places), dice.randint(0, 5)
            found = least_worths(house, prices, place, start)
            for _ in range(8):
                goal, number = dice.randrange(house.places), dice.randint(0, 12)
                worth = found[goal].at(number)
                for other in {None, 0, dice.randint(0, 9), 0 if worth is None else worth + 1, max(0, (worth or 0) - 1)}:
                    value = {**found, goal: spoilt(found[goal], number, other)}
                    self.assertEqual(value[goal].at(number), other)
                    right = worths_by_steps(house, prices, place, start, value, 60)
                    many += not right
                    self.assertIs(is_worths(house, prices, place, start, value), right)
                    self.assertIs(tells_dear(house, prices, place, start, goal, number, 1, value), right and other != 0)
        self.assertGreater(many, 300)

    def test_random_worths(self):
        seen = {True: 0, False: 0}
        for seed in range(400):
            house, prices = priced_house(seed, 1 + seed % 2)
            dice = random.Random(seed)
            flat = [(0, dice.randint(1, 2), dice.randint(0, 2), dice.randint(0, 1), None) for _ in range(house.places * 2)]
            value = {place: Least(flat[2 * place:2 * place + 2] + [(dice.randint(0, 3), 1, dice.randint(0, 5), 0, dice.choice([1, None]))])
                     for place in range(house.places)}
            right = worths_by_steps(house, prices, 0, 2, value, 60)
            seen[right] += 1
            self.assertIs(is_worths(house, prices, 0, 2, value), right)
        self.assertGreater(min(seen.values()), 10)

    def test_spoilt_far_away(self):
        found = least_worths(HOUSE, PRICES, 0, 5)
        self.assertIs(is_worths(HOUSE, PRICES, 0, 5, found), True)
        for number in (10 ** 5, FAR):
            worth = found[0].at(number)
            for other in (None, worth - 1, worth + 1):
                # A lesser worth undercuts by the deeds behind it, a greater one by those ahead of it.
                self.assertIs(is_worths(HOUSE, PRICES, 0, 5, {**found, 0: spoilt(found[0], number, other)}), False)
            worth = found[1].at(number)
            for other, right in ((None, False), (worth + 1, False), (worth - 1, True)):
                self.assertIs(is_worths(HOUSE, PRICES, 0, 5, {**found, 1: spoilt(found[1], number, other)}), right)
        self.assertIs(is_worths(HOUSE, PRICES, 0, 5, {0: FREE, 1: spoilt(FREE, FAR, None)}), False)
        self.assertIs(is_worths(HOUSE, PRICES, 0, 5, {0: FREE, 1: spoilt(FREE, FAR, 3)}), False)
        self.assertIs(is_worths(HOUSE, PRICES, 0, 5, {0: FREE, 1: spoilt(FREE, FAR, 1)}), True)

    def test_numbers_below_nothing(self):
        below = Least([(-9, 1, 7, 0, 9)])
        self.assertIs(is_worths(HOUSE, PRICES, 0, 5, {0: FREE.least_of(below), 1: FREE}), True)
        self.assertIs(is_worths(HOUSE, PRICES, 0, 5, {0: FREE, 1: FREE.least_of(below)}), True)
        self.assertIs(is_worths(HOUSE, PRICES, 1, 0, {0: below, 1: Least([(0, 1, 0, 0, 1)])}), True)
        self.assertIs(is_worths(HOUSE, PRICES, 1, 0, {0: Least(), 1: Least([(0, 1, 0, 0, 1), (-3, 1, 0, 0, 2)])}), True)

    def test_empty_deeds(self):
        house, prices = House(2, [(0, 1, 1, "empty"), (0, 0, 0, "empty")]), [4, 1]
        at_zero = Least([(0, 1, 0, 0, 1)])
        for behind, right in ((Least([(1, 1, 4, 0, 1)]), True), (Least([(1, 1, 5, 0, 1)]), False), (Least(), False), (Least([(0, 1, 0, 0, 1)]), False),
                              (Least([(1, 1, 3, 0, 1)]), True)):
            self.assertIs(is_worths(house, prices, 0, 0, {0: at_zero, 1: behind}), right)
        self.assertIs(is_worths(house, prices, 0, 3, {0: Least([(3, 1, 0, 0, 1)]), 1: Least()}), True)
        self.assertIs(is_worths(house, prices, 0, 3, {0: Least([(0, 3, 0, 0, 2)]), 1: Least()}), False)

    def test_the_start(self):
        for worth, right in ((0, True), (1, False), (None, False)):
            self.assertIs(is_worths(House(1, []), [], 0, FAR, {0: spoilt(Least(), FAR, worth)}), right)
        self.assertIs(is_worths(House(1, []), [], 0, 3, {0: Least([(0, 1, 0, 0, 3)])}), False)

    def test_other_families(self):
        for seed in range(30):
            house, prices = priced_house(seed, 1 + seed % 4)
            dice = random.Random(seed)
            found = least_worths(house, prices, 0, 3)
            value = {place: Least(cut_up(found[place].families(), dice)) for place in sorted(found, reverse=True)}
            self.assertIs(is_worths(house, prices, 0, 3, value), True)
            value[0] = value[0].raised(1)
            self.assertIs(is_worths(house, prices, 0, 3, value), False)

    def test_values_of_any_kind(self):
        wrong = [{0: FREE}, {1: FREE}, {0: FREE, True: FREE}, {False: FREE, 1: FREE}, {0: FREE, 1: FREE, 2: FREE}, [FREE, FREE], (FREE, FREE),
                 {0: FREE, 1: FREE.families()}, {0: FREE, 1: None}, {0: Line.counts(), 1: FREE}, {0: FREE, "1": FREE}]
        for value in ANY + wrong:
            self.assertIs(is_worths(HOUSE, PRICES, 0, 5, value), False)
            self.assertIs(tells_dear(HOUSE, PRICES, 0, 5, 0, 5, 0, value), False)
        self.assertIs(is_worths(HOUSE, PRICES, 0, 5, {1: FREE, 0: FREE}), True)

    def test_many_places(self):
        house = House(16, [(k, 1 - 2 * (k % 2), (k + 1) % 16, "any") for k in range(16)])
        value = {place: FREE for place in range(16)}
        self.assertIs(is_worths(house, [1] * 16, 15, FAR, value), True)
        self.assertIs(tells_dear(house, [1] * 16, 15, FAR, 3, 4, 0, value), True)
        self.assertIs(tells_dear(house, [1] * 16, 15, FAR, 3, 4, 1, value), False)
        self.assertIs(is_worths(house, [1] * 16, 15, FAR, {**value, 9: spoilt(FREE, FAR, 2)}), False)
        with self.assertRaises(TooMany) as caught:
            least_worths(house, [1] * 16, 15, FAR)
        self.assertEqual((caught.exception.what, caught.exception.limit), ("places", 6))
        with self.assertRaises(InvalidMany):
            least_worths(house, [1] * 16, 15, -1)

    def test_errors(self):
        calls = (lambda odd: least_worths(HOUSE, odd, None, None), lambda odd: is_worths(HOUSE, odd, None, None, None),
                 lambda odd: tells_dear(HOUSE, odd, None, None, None, None, None, None))
        self.check(InvalidPrices, NO_PRICES, calls)
        calls = (lambda odd: least_worths(HOUSE, PRICES, odd, None), lambda odd: is_worths(HOUSE, PRICES, odd, None, None),
                 lambda odd: tells_dear(HOUSE, PRICES, odd, None, None, None, None, None),
                 lambda odd: tells_dear(HOUSE, PRICES, 0, 0, odd, None, None, None))
        self.check(InvalidPlace, NO_COUNTS + [2], calls)
        calls = (lambda odd: least_worths(HOUSE, PRICES, 0, odd), lambda odd: is_worths(HOUSE, PRICES, 0, odd, None),
                 lambda odd: tells_dear(HOUSE, PRICES, 0, odd, None, None, None, None),
                 lambda odd: tells_dear(HOUSE, PRICES, 0, 0, 0, odd, None, None), lambda odd: tells_dear(HOUSE, PRICES, 0, 0, 0, 0, odd, None),
                 lambda odd: is_worths(value=None, start=odd, place=0, prices=PRICES, house=HOUSE))
        self.check(InvalidMany, NO_COUNTS, calls)

    def check(self, error, odds, calls):
        for odd in odds:
            for call in calls:
                with self.assertRaises(error) as caught:
                    call(odd)
                self.assertIs(caught.exception.value, odd)

    def test_nothing_is_changed(self):
        value = least_worths(HOUSE, PRICES, 0, 5)
        told = {place: least.families() for place, least in value.items()}
        is_worths(HOUSE, PRICES, 0, 5, value)
        tells_dear(HOUSE, PRICES, 0, 5, 1, 0, 3, value)
        self.assertEqual({place: least.families() for place, least in value.items()}, told)
        value.clear()
        self.assertEqual(list(least_worths(HOUSE, PRICES, 0, 5)), [0, 1])

    def test_falling_families(self):
        for seed in range(20):
            dice = random.Random(seed)
            family = random_family(dice)
            value = {0: Least([(0, 1, 0, 0, 1), family])}
            self.assertIs(is_worths(House(1, []), [], 0, 0, value), Least([family]).at(0) in (None, 0) or value[0].at(0) == 0)

    def test_example(self):
        self.assertIs(is_worths(HOUSE, [2, 1, 3], 0, 5, {0: Least([(0, 1, 0, 0, None)]), 1: Least([(0, 1, 0, 0, None)])}), True)


if __name__ == "__main__":
    unittest.main()
