"""What is asked many thousands of times takes little time: a hundred calls stay below a wide bound."""

import time
import unittest

from lonetill.houses import House
from lonetill.least import price_from, price_to, within
from lonetill.worths import least_worths

BOUND = 0.5


def dense_house():
    """A house of six places with sixty deeds."""
    deeds = [(place, change, goal, "any") for place in range(6) for goal in range(6) for change in (1, -1)][:52]
    deeds += [(place, place % 2, (place + 1) % 6, "empty") for place in range(6)] + [(0, 0, 3, "any"), (4, 0, 1, "any")]
    return House(6, deeds)


def rings_house():
    """A ring up of six places and a ring down of five of them."""
    return House(6, [(k, 1, (k + 1) % 6, "any") for k in range(6)] + [(k, -1, (k + 1) % 5, "any") for k in range(5)])


CASES = [(House(6, []), []), (House(6, [(0, 1, 5, "any")]), [1]), (rings_house(), [5, 1, 7, 0, 2, 9, 3, 1, 1, 8, 2]),
         (dense_house(), [1] * 60), (dense_house(), [k * 373 % 1001 for k in range(60)]), (dense_house(), [0] * 60)]


class Speed(unittest.TestCase):
    def check(self, call):
        best = BOUND
        # The best of a few tries: what else the machine does then has no part in it.
        for _ in range(3):
            begun = time.perf_counter()
            for _ in range(100):
                call()
            best = min(best, time.perf_counter() - begun)
            if best < BOUND:
                return
        self.fail("a hundred calls take too long")

    def test_price_from(self):
        for house, prices in CASES:
            self.check(lambda: price_from(house, prices, 0, 0))
            self.check(lambda: price_from(house, prices, 0, 9))

    def test_price_to(self):
        for house, prices in CASES:
            self.check(lambda: price_to(house, prices, 5, 0))
            self.check(lambda: price_to(house, prices, 5, 9))

    def test_least_worths(self):
        for house, prices in CASES:
            self.check(lambda: least_worths(house, prices, 0, 0))

    def test_within(self):
        for house, prices in CASES:
            self.check(lambda: within(house, prices, 0, 5, 7))
            self.check(lambda: within(house, prices, 0, 0, 40))


if __name__ == "__main__":
    unittest.main()
