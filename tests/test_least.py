"""Points 63, 64, 65, 67: least prices, of two stands, of all ends, of all starts, and of all pairs."""

import random
import unittest

from lonetill.empties import leads
from lonetill.errors import InvalidMany, InvalidPlace, InvalidPrices, TooMany
from lonetill.families import Least
from lonetill.grids import Grid
from lonetill.houses import House
from lonetill.least import least_price, price_from, price_to, within
from tests.odd import NO_COUNTS
from tests.priced import priced_house, walked_prices
from tests.roofed import dice_rings
from tests.test_prices import HOUSE, NO_PRICES, PRICES

FAR = 10 ** 29
ROUND = House(3, [(0, 1, 1, "any"), (1, 1, 0, "any"), (0, -1, 2, "any"), (2, -1, 2, "any"), (2, 0, 0, "empty")])


class Prices(unittest.TestCase):
    def test_near(self):
        for seed in range(90):
            house, prices = priced_house(seed, 1 + seed % 5, (9, 1000)[seed % 2])
            place, start = seed % house.places, (0, 1, 2, 5, 14, 30)[seed % 6]
            told = walked_prices(house, prices, (place, start), start + 60 + house.places ** 2)
            found = price_from(house, prices, place, start)
            self.assertEqual(list(found), list(range(house.places)))
            for goal, least in found.items():
                self.assertEqual([least.at(end) for end in range(start + 40)], [told.get((goal, end)) for end in range(start + 40)])
                self.assertEqual([least.at(number) for number in (-1, -2, -FAR)], [None] * 3)
                for end in (0, 1, start, start + 7):
                    self.assertEqual(least_price(house, prices, place, start, goal, end), told.get((goal, end)))
            self.assertEqual((found[place].at(start), least_price(house, prices, place, start, place, start)), (0, 0))

    def test_laps_of_unlike_lengths(self):
        # A dear lap of two steps first, then a cheap one of three, five or seven numbers: of the first, few are needed.
        for size in (3, 4, 5):
            deeds = [(0, 1, 1, "any"), (1, 1, 0, "any"), (0, 0, 2, "any")]
            deeds += [(2 + k, 1, 2 + (k + 1) % (size - 1), "any") for k in range(size - 1)] + [(2, 1, 2, "any")][:size - 4]
            house = House(2 + size - 1, deeds)
            for prices in ([5, 5, 0] + [1] * (len(deeds) - 3), [0, 1, 0] + [7] * (len(deeds) - 3), [3, 4, 9] + [2] * (len(deeds) - 4) + [30]):
                self.check_walked(house, prices, 0, 3, 60)
                self.check_walked(House(house.places, [(place, -change, goal, when) for place, change, goal, when in deeds]), prices, 0, 41, 60)

    def test_rings_by_dice(self):
        for seed in range(70):
            dice = random.Random(seed)
            house = dice_rings(dice, dice.randint(2, 6))
            prices = [dice.choice([0, 1, 2, dice.randint(0, 30), 1000]) for _ in range(len(house))]
            self.check_walked(house, prices, dice.randrange(house.places), dice.choice([0, 1, 4, 30]), 70)

    def check_walked(self, house, prices, place, start, top):
        """Prices from a stand, and to it, against goings walked up to more than the top."""
        told = walked_prices(house, prices, (place, start), top + house.places ** 2)
        for goal, least in price_from(house, prices, place, start).items():
            self.assertEqual([least.at(end) for end in range(top)], [told.get((goal, end)) for end in range(top)])
            for end in (0, 1, 7, start, top - 1):
                self.assertEqual(least_price(house, prices, place, start, goal, end), told.get((goal, end)))
        back = House(house.places, [(goal, -change, at, when) for at, change, goal, when in house.deeds() if when == "any"])
        if house.is_plain:
            for at, least in price_to(back, prices, place, start).items():
                self.assertEqual([least.at(number) for number in range(top)], [told.get((at, number)) for number in range(top)])

    def test_to_a_stand(self):
        for seed in range(50):
            house, prices = priced_house(seed, 1 + seed % 4, (9, 1000)[seed % 2])
            goal, end = seed % house.places, (0, 1, 3, 12)[seed % 4]
            found = price_to(house, prices, goal, end)
            self.assertEqual(list(found), list(range(house.places)))
            for place, least in found.items():
                for start in (0, 1, 2, 3, 5, 8, 13, 25):
                    told = walked_prices(house, prices, (place, start), max(start, end) + house.places ** 2 + 5)
                    self.assertEqual(least.at(start), told.get((goal, end)))
                self.assertEqual([least.at(number) for number in (-1, -2, -FAR)], [None] * 3)

    def test_far(self):
        for seed in range(36):
            house, prices = priced_house(seed, 1 + seed % 6, (9, 1000)[seed // 6 % 2])
            place = seed % house.places
            ahead, back = price_from(house, prices, place, FAR), price_to(house, prices, place, FAR)
            for goal in range(house.places):
                for number in (0, 3, FAR // 2, FAR - 1, FAR + 44):
                    self.assertEqual(ahead[goal].at(number), least_price(house, prices, place, FAR, goal, number))
                    self.assertEqual(back[goal].at(number), least_price(house, prices, goal, number, place, FAR))
                    self.assertIs(ahead[goal].at(number) is None, not leads(house, place, FAR, goal, number))
                # The further it goes, the same comes again with a common step of 60.
                for number in (FAR + 10 ** 5, 3 * FAR):
                    steps = [ahead[goal].at(number + 60 * k) for k in range(3)]
                    self.assertEqual(None if None in steps else steps[2] - steps[1], None if None in steps else steps[1] - steps[0])

    def test_what_comes_again(self):
        # Steps up by two places, five coins each two; down by one, three each.
        house = House(3, [(0, 1, 1, "any"), (1, 1, 0, "any"), (0, 0, 2, "any"), (2, -1, 2, "any")])
        prices = [2, 3, 0, 3]
        self.assertEqual([least_price(house, prices, 0, 0, 0, 2 * FAR), least_price(house, prices, 0, 0, 1, 2 * FAR + 1)], [5 * FAR, 5 * FAR + 2])
        self.assertIsNone(least_price(house, prices, 0, 0, 0, FAR + 1))
        self.assertEqual(least_price(house, prices, 0, FAR, 2, 0), 3 * FAR)
        self.assertEqual(price_from(house, prices, 0, FAR)[2].parting(Least([(0, 1, 3 * FAR, -3, FAR + 1), (FAR + 1, 2, 5, 5, None),
                                                                            (FAR + 2, 2, 5, 5, None)])), FAR + 1)

    def test_the_overview(self):
        self.assertEqual(least_price(ROUND, [1] * 5, 0, 5, 0, 0), 6)
        self.assertIsNone(least_price(ROUND, [1] * 5, 0, 0, 0, 3))
        self.assertEqual(least_price(ROUND, [1] * 5, 0, FAR, 0, 0), FAR + 1)
        self.assertEqual(least_price(ROUND, [1, 1, 1, 1, 1000], 0, 5, 0, 0), 1005)

    def test_within(self):
        for seed in range(40):
            house, prices = priced_house(seed, 1 + seed % 3, (3, 9)[seed // 3 % 2])
            dice = random.Random(seed)
            place, goal, many = dice.randrange(house.places), dice.randrange(house.places), dice.choice([0, 1, 4, 13, 40])
            grid = within(house, prices, place, goal, many)
            for start in [*range(8), 40, FAR]:
                for end in [*range(0, 8, 2), 39, 41, FAR - 2, FAR, FAR + 1, FAR + 5]:
                    price = least_price(house, prices, place, start, goal, end)
                    self.assertIs(grid.has(start, end), price is not None and price <= many)
            self.assertIs(within(house, prices, place, goal, max(0, many - 1)).is_within(grid), True)

    def test_within_through_the_empty_till(self):
        house = House(2, [(0, -1, 0, "any"), (0, 0, 1, "empty"), (1, 1, 1, "any"), (1, 1, 0, "empty")])
        for prices, many in (([1, 2, 1, 0], 5), ([1, 0, 2, 3], 5), ([0, 0, 1, 0], 3), ([2, 0, 0, 0], 4), ([3, 40, 0, 0], 40)):
            for place, goal in ((0, 1), (1, 1), (1, 0), (0, 0)):
                grid = within(house, prices, place, goal, many)
                for start in range(9):
                    told = walked_prices(house, prices, (place, start), 30)
                    self.assertEqual([grid.has(start, end) for end in range(9)],
                                     [told.get((goal, end), many + 1) <= many for end in range(9)])

    def test_within_nothing(self):
        self.assertEqual(within(HOUSE, PRICES, 1, 0, 40), Grid.none())
        self.assertEqual(within(House(1, []), [], 0, 0, 0).at(FAR).least(), FAR)
        free = within(House(1, [(0, 1, 0, "any"), (0, -1, 0, "any")]), [0, 0], 0, 0, 0)
        self.assertEqual(free, Grid.every())

    def test_errors(self):
        calls = (lambda odd: least_price(HOUSE, odd, None, None, None, None), lambda odd: price_from(HOUSE, odd, None, None),
                 lambda odd: price_to(HOUSE, odd, None, None), lambda odd: within(HOUSE, odd, None, None, None),
                 lambda odd: within(many=0, goal=0, place=0, prices=odd, house=HOUSE))
        self.check(InvalidPrices, NO_PRICES, calls)
        calls = (lambda odd: least_price(HOUSE, PRICES, odd, None, None, None), lambda odd: least_price(HOUSE, PRICES, 0, 0, odd, None),
                 lambda odd: price_from(HOUSE, PRICES, odd, None), lambda odd: price_to(HOUSE, PRICES, odd, None),
                 lambda odd: within(HOUSE, PRICES, odd, None, None), lambda odd: within(HOUSE, PRICES, 0, odd, None),
                 lambda odd: price_to(end=0, goal=odd, prices=PRICES, house=HOUSE))
        self.check(InvalidPlace, NO_COUNTS + [2], calls)
        calls = (lambda odd: least_price(HOUSE, PRICES, 0, odd, None, None), lambda odd: least_price(HOUSE, PRICES, 0, 0, 0, odd),
                 lambda odd: price_from(HOUSE, PRICES, 0, odd), lambda odd: price_to(HOUSE, PRICES, 0, odd),
                 lambda odd: within(HOUSE, PRICES, 0, 0, odd), lambda odd: price_from(start=odd, place=0, prices=PRICES, house=HOUSE))
        self.check(InvalidMany, NO_COUNTS, calls)
        self.check(InvalidMany, [41, FAR], (lambda odd: within(HOUSE, PRICES, 0, 1, odd),))
        within(HOUSE, PRICES, 0, 1, 40)

    def check(self, error, odds, calls):
        for odd in odds:
            for call in calls:
                with self.assertRaises(error) as caught:
                    call(odd)
                self.assertIs(caught.exception.value, odd)

    def test_seven_places(self):
        house = House(7, [])
        for call in (lambda: least_price(house, [], 0, 0, 0, 0), lambda: price_from(house, [], 0, 0), lambda: price_to(house, [], 0, 0),
                     lambda: within(house, [], 0, 0, 0)):
            with self.assertRaises(TooMany) as caught:
                call()
            self.assertEqual((caught.exception.what, caught.exception.limit), ("places", 6))
        for call in (lambda: least_price(house, [], 0, 0, 0, -1), lambda: price_from(house, [], 0, -1), lambda: price_to(house, [], 0, -1),
                     lambda: within(house, [], 0, 0, 41)):
            with self.assertRaises(InvalidMany):
                call()

    def test_six_places_never_have_too_many(self):
        deeds = [(k, 1, (k + 1) % 6, "any") for k in range(6)] + [(k, -1, (k + 1) % 5, "any") for k in range(5)]
        deeds += [(k, 1, 5 - k, "any") for k in range(6)] + [(k, 0, (k + 2) % 6, "empty") for k in range(6)]
        deeds = list(dict.fromkeys(deeds))
        for seed in range(3):
            dice = random.Random(seed)
            house, prices = House(6, deeds), [dice.randint(0, 1000) for _ in deeds]
            for start in (3, FAR):
                found = price_from(house, prices, 1, start)
                for goal in range(6):
                    self.assertLessEqual(len(found[goal].families()), 2000)
                    for end in (0, 7, FAR + 5):
                        self.assertEqual(found[goal].at(end), least_price(house, prices, 1, start, goal, end))
        within(house, [price // 100 for price in prices], 0, 3, 40)

    def test_nothing_is_changed(self):
        prices = [2, 1, 3]
        for call in (price_from, price_to):
            found = call(HOUSE, prices, 0, 7)
            found[0].families().clear()
            found.clear()
            self.assertEqual((list(call(HOUSE, prices, 0, 7)), prices), ([0, 1], [2, 1, 3]))
        self.assertEqual(least_price(HOUSE, tuple(prices), 0, 0, 1, 3), 9)

    def test_example(self):
        self.assertEqual([least_price(HOUSE, [2, 1, 3], 0, 0, 1, 3), least_price(HOUSE, [2, 1, 3], 1, 0, 0, 0)], [9, None])
        self.assertEqual(price_from(HOUSE, [2, 1, 3], 0, 10 ** 20)[1].at(0), 299999999999999999998)


if __name__ == "__main__":
    unittest.main()
