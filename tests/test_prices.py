"""Points 61, 63, 64, 65: prices of goings, and cheapest goings."""

import random
import unittest

from lonetill.errors import InvalidGoing, InvalidMany, InvalidPlace, InvalidPrices, TooMany
from lonetill.goings import behind, is_going
from lonetill.houses import House
from lonetill.least import least_price
from lonetill.prices import cheapest_going, is_prices, price_of
from tests.odd import ANY, NO_COUNTS
from tests.priced import priced_house, walked_prices
from tests.roofed import dice_rings
from tests.test_ways import lists_within, longest

FAR = 10 ** 29
HOUSE = House(2, [(0, 1, 0, "any"), (0, -1, 1, "any"), (1, -1, 1, "any")])
PRICES = [2, 1, 3]
NO_PRICES = ANY + [[2, 1], [2, 1, 3, 0], [2, True, 3], [2, 1, 1001], [2, 1, -1], [2, None, 3], {0: 2, 1: 1, 2: 3}, "213"]


class Prices(unittest.TestCase):
    def test_is_prices(self):
        self.assertIs(is_prices(HOUSE, PRICES), True)
        self.assertIs(is_prices(HOUSE, (0, 1000, 3)), True)
        self.assertIs(is_prices(value=[], house=House(1, [])), True)
        self.assertIs(is_prices(House(1, []), ()), True)
        for value in NO_PRICES:
            self.assertIs(is_prices(HOUSE, value), False)
        for odd in NO_COUNTS:
            self.assertIs(is_prices(HOUSE, [odd, 0, 0]), False)

    def test_price_of(self):
        self.assertEqual(price_of(HOUSE, PRICES, [([([0], FAR), 0], 10), 1, ([2], 3)]), 20 * (FAR + 1) + 1 + 9)
        self.assertEqual(price_of(HOUSE, PRICES, [([([([0, 0], 5)], 7)], 3)]), 420)
        self.assertEqual(price_of(HOUSE, PRICES, [([1], 0), 0]), 2)
        self.assertEqual(price_of(HOUSE, PRICES, ((((0, 0), 2), 1))), 9)
        self.assertEqual(price_of(HOUSE, (0, 0, 0), [([0], FAR), 1]), 0)
        # It need not be one that can be done from some number: deeds of an empty till one behind another.
        house = House(1, [(0, 1, 0, "empty")])
        self.assertEqual(price_of(house, [7], [0, 0, 0]), 21)

    def test_goings_done_deed_by_deed(self):
        for seed in range(60):
            house, prices = priced_house(seed, 3)
            dice = random.Random(seed)
            place, going, price = dice.randrange(3), [], 0
            for _ in range(12):
                ways = [at for at, deed in enumerate(house.deeds()) if deed[0] == place]
                if ways:
                    at = dice.choice(ways)
                    place, price = house.deeds()[at][2], price + prices[at]
                    going.append(at)
            self.assertEqual(price_of(house, prices, going), price)
            self.assertEqual(price_of(house, prices, [(going, 1)]), price)

    def test_cheapest_near(self):
        for seed in range(60):
            house, prices = priced_house(seed, 1 + seed % 4)
            place, start = seed % house.places, (0, 1, 3, 6)[seed % 4]
            told = walked_prices(house, prices, (place, start), 10 + house.places ** 2)
            for goal in range(house.places):
                for end in range(9):
                    self.check(house, prices, place, start, goal, end, told.get((goal, end)))

    def check(self, house, prices, place, start, goal, end, price):
        going = cheapest_going(house, prices, place, start, goal, end)
        if price is None:
            self.assertIsNone(going)
            return
        self.assertIs(is_going(house, place, start, going), True)
        self.assertEqual(behind(house, place, start, going), (goal, end))
        self.assertEqual(price_of(house, prices, going), price)
        self.assertIsInstance(going, list)
        self.assertLessEqual(lists_within(going), 4)
        self.assertLessEqual(longest(going), 4000)

    def test_cheapest_far(self):
        for seed in range(54):
            house, prices = priced_house(seed, 1 + seed % 6, (9, 1000)[seed // 6 % 2])
            dice = random.Random(seed)
            place, goal = dice.randrange(house.places), dice.randrange(house.places)
            for start in (2, FAR, FAR + 3):
                for end in (0, 5, FAR, FAR - 1, FAR + 8):
                    self.check(house, prices, place, start, goal, end, least_price(house, prices, place, start, goal, end))

    def test_rings_by_dice(self):
        for seed in range(70):
            dice = random.Random(seed)
            house = dice_rings(dice, dice.randint(2, 6))
            prices = [dice.choice([0, 1, 2, dice.randint(0, 30), 1000]) for _ in range(len(house))]
            place, start = dice.randrange(house.places), dice.choice([0, 1, 4, 20])
            told = walked_prices(house, prices, (place, start), 130 + house.places ** 2)
            for goal in range(house.places):
                for end in (0, 1, 2, start, start + 9, 120):
                    self.check(house, prices, place, start, goal, end, told.get((goal, end)))
                for end in (0, 3, FAR - 1, FAR + 7):
                    self.check(house, prices, place, FAR, goal, end, least_price(house, prices, place, FAR, goal, end))

    def test_prices_of_nothing(self):
        # Deeds that cost nothing go round at 0: the told way must not.
        house = House(3, [(0, 0, 1, "empty"), (1, 0, 0, "empty"), (1, 0, 2, "empty"), (2, 0, 0, "empty"), (2, 1, 2, "any")])
        self.check(house, [0, 0, 0, 0, 1], 0, 0, 2, FAR, FAR)
        self.check(house, [0, 0, 0, 0, 0], 0, 0, 2, 3, 0)
        for number in (0, 3, FAR):
            self.assertEqual(price_of(house, [1] * 5, cheapest_going(house, [1] * 5, 1, number, 1, number)), 0)

    def test_ways_at_zero(self):
        # Between places at 0: an "empty" deed, a plain going up and down again, and one up with a fall behind it.
        deeds = [(0, 0, 1, "empty"), (1, 1, 2, "any"), (2, -1, 3, "any"), (3, 1, 4, "empty"), (4, -1, 5, "any"), (5, 0, 0, "empty"),
                 (0, -1, 0, "any"), (5, 1, 5, "any"), (1, 0, 0, "empty"), (3, 1, 3, "empty"), (3, -1, 5, "any")]
        house = House(6, deeds)
        for prices in ([3, 1, 4, 1, 5, 9, 2, 6, 5, 3, 5], [0] * 11, [1] * 11, [0, 0, 1, 7, 0, 0, 2, 3, 0, 4, 4], [5, 0, 0, 0, 9, 0, 0, 0, 0, 4, 4]):
            for place, start in ((0, 4), (0, 0), (3, 0), (5, 0)):
                told = walked_prices(house, prices, (place, start), 60)
                for goal in range(6):
                    for end in (0, 1, 3):
                        self.check(house, prices, place, start, goal, end, told.get((goal, end)))
                self.check(house, prices, place, start, 5, FAR, least_price(house, prices, place, start, 5, FAR))

    def test_long_laps(self):
        deeds = [(k, 1, (k + 1) % 6, "any") for k in range(6)] + [(k, -1, (k + 1) % 5, "any") for k in range(5)]
        house, prices = House(6, deeds), [5, 1, 7, 0, 2, 9, 3, 1, 1, 8, 2]
        for start, end in ((0, FAR), (FAR, 0), (FAR, FAR + 1), (7, 7), (FAR, 2 * FAR)):
            self.check(house, prices, 2, start, 3, end, least_price(house, prices, 2, start, 3, end))

    def test_errors(self):
        for odd in NO_PRICES:
            for call in (lambda: price_of(HOUSE, odd, None), lambda: cheapest_going(HOUSE, odd, None, None, None, None),
                         lambda: price_of(going=None, prices=odd, house=HOUSE)):
                with self.assertRaises(InvalidPrices) as caught:
                    call()
                self.assertIs(caught.exception.value, odd)
        for going in [value for value in ANY if value not in ([], (), [1], (1,))] + [[3], [-1], [True], [1, 0], [([1], 2)], [([0], -1)], [[0]], [([([([0], 1)], 1)], 1), ([([([([0], 1)], 1)], 1)], 1)]]:
            with self.assertRaises(InvalidGoing) as caught:
                price_of(HOUSE, PRICES, going)
            self.assertIs(caught.exception.value, going)
        for odd in NO_COUNTS:
            for call in (lambda: cheapest_going(HOUSE, PRICES, 0, odd, None, None), lambda: cheapest_going(HOUSE, PRICES, 0, 0, 0, odd)):
                with self.assertRaises(InvalidMany) as caught:
                    call()
                self.assertIs(caught.exception.value, odd)
        for odd in NO_COUNTS + [2]:
            for call in (lambda: cheapest_going(HOUSE, PRICES, odd, None, None, None), lambda: cheapest_going(HOUSE, PRICES, 0, 0, odd, None)):
                with self.assertRaises(InvalidPlace) as caught:
                    call()
                self.assertIs(caught.exception.value, odd)

    def test_seven_places(self):
        house = House(7, [])
        with self.assertRaises(TooMany) as caught:
            cheapest_going(house, [], 0, 0, 0, 0)
        self.assertEqual((caught.exception.what, caught.exception.limit), ("places", 6))
        with self.assertRaises(InvalidMany):
            cheapest_going(house, [], 0, 0, 0, -1)
        self.assertEqual(price_of(house, [], []), 0)

    def test_nothing_is_changed(self):
        prices, going = [2, 1, 3], [([0], 4), 1]
        price_of(HOUSE, prices, going)
        told = cheapest_going(HOUSE, prices, 0, 0, 1, 3)
        self.assertEqual((prices, going), ([2, 1, 3], [([0], 4), 1]))
        again = repr(told)
        for item in told:
            if isinstance(item, tuple):
                item[0].clear()
        told.clear()
        self.assertEqual(repr(cheapest_going(HOUSE, prices, 0, 0, 1, 3)), again)

    def test_example(self):
        self.assertEqual([price_of(HOUSE, [2, 1, 3], [([0], 4), 1]), price_of(HOUSE, [2, 1, 3], [])], [9, 0])


if __name__ == "__main__":
    unittest.main()
