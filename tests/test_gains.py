"""Point 25: least starts, extras, gains and plain goings, against goings walked stand by stand."""

import random
import unittest

from lonetill.errors import InvalidMany, InvalidNumber, InvalidPlace
from lonetill.gains import extras, gains, leads_plain, least_start, plain_going
from lonetill.goings import behind, gain_of, is_going, need_of
from lonetill.houses import House
from lonetill.lines import Line
from tests.odd import NO_COUNTS, NO_INTEGERS
from tests.walked import come_to_from, random_house, spare, walked_need

FAR = 10 ** 29
STALL = House(2, [(0, 1, 0, "any"), (0, 0, 1, "any"), (1, -1, 1, "any"), (1, 0, 0, "empty")])


def ring_house(ups, downs):
    """A ring of deeds up and, from its place 0, a ring of deeds down."""
    deeds = [(k, 1, (k + 1) % ups, "any") for k in range(ups)]
    others = [0] + list(range(ups, ups + downs - 1))
    deeds += [(others[k], -1, others[(k + 1) % downs], "any") for k in range(downs)]
    return House(ups + downs - 1, deeds)


def greatest_lists(going):
    """The greatest length of a list of the going, and how many lists stand within one another."""
    inner = [greatest_lists(item[0]) for item in going if isinstance(item, tuple)]
    return (max([len(going)] + [size for size, _ in inner]), 1 + max([depth for _, depth in inner], default=0))


class NearGains(unittest.TestCase):
    def test_least_starts(self):
        for seed in range(150):
            house = random_house(seed, 3, 9)
            for place in range(house.places):
                for goal in range(house.places):
                    self.check_gains(house, place, goal)

    def check_gains(self, house, place, goal):
        rows = extras(house, place, goal)
        self.assertEqual([k for k, _ in rows], sorted({k for k, _ in rows}))
        self.assertFalse(any(line.is_empty for _, line in rows))
        for gain in range(-4, 5):
            found = least_start(house, place, goal, gain)
            # An extra is always below the number of places times itself.
            most = max(0, -gain) + spare(house)
            self.assertEqual(found, walked_need(house, place, goal, gain, most), (house, place, goal, gain))
            told = [k for k, line in rows if line.has(gain)]
            self.assertEqual(told, [] if found is None else [found - max(0, -gain)])
            for many in range(6):
                self.assertIs(gains(house, place, goal, many).has(gain), found is not None and found <= many)

    def test_leads(self):
        for seed in range(100):
            house = random_house(seed, 3, 9)
            for place in range(house.places):
                for start in range(4):
                    seen = come_to_from(house, (place, start), 4 + spare(house), True)
                    for goal in range(house.places):
                        for end in range(5):
                            self.check_way(house, place, start, goal, end, (goal, end) in seen)

    def check_way(self, house, place, start, goal, end, known):
        self.assertIs(leads_plain(house, place, start, goal, end), known)
        going = plain_going(house, place, start, goal, end)
        if not known:
            self.assertIsNone(going)
            return
        self.assertIsInstance(going, list)
        self.assertEqual(behind(house, place, start, going), (goal, end))
        self.assertLessEqual(need_of(house, going), start)


class FarGains(unittest.TestCase):
    def check_far(self, house, place, start, goal, end):
        need = least_start(house, place, goal, end - start)
        known = need is not None and need <= start
        self.assertIs(leads_plain(house, place, start, goal, end), known)
        going = plain_going(house, place, start, goal, end)
        self.assertIs(going is not None, known)
        if known:
            self.assertTrue(is_going(house, place, start, going))
            self.assertEqual(behind(house, place, start, going), (goal, end))
            self.assertEqual(gain_of(house, going), end - start)
            self.assertLessEqual(need_of(house, going), start)
            size, depth = greatest_lists(going)
            self.assertLessEqual(size, 4000)
            self.assertLessEqual(depth, 4)

    def test_random_houses(self):
        dice = random.Random(11)
        for seed in range(150):
            house = random_house(seed, 5, 14)
            for _ in range(6):
                place, goal = dice.randrange(house.places), dice.randrange(house.places)
                start, end = dice.choice([0, 5, 700, FAR]), dice.choice([0, 3, 900, FAR, FAR + 5, 9 * FAR])
                self.check_far(house, place, start, goal, end)

    def test_rings(self):
        for ups, downs in ((3, 5), (7, 10), (9, 8), (16, 1), (1, 16), (4, 6)):
            house = ring_house(ups, downs)
            for gain in (1, 2, 3, -1, -2, FAR, FAR + 1, FAR + 7, -FAR, 1 - FAR):
                for place, goal in ((0, 0), (0, house.places - 1), (house.places - 1, 1 % ups)):
                    self.check_far(house, place, 2 * FAR, goal, 2 * FAR + gain)

    def test_ways_into_a_ring_and_out_of_it(self):
        for ring in (1, 2, 3, 5, 7):
            for change in (1, -1):
                deeds = [(0, change, 1, "any"), (1, change, 2, "any")]
                deeds += [(2 + k, change, 2 + (k + 1) % ring, "any") for k in range(ring)]
                house = House(ring + 4, deeds + [(2, change, ring + 2, "any"), (ring + 2, change, ring + 3, "any")])
                for more in range(ring):
                    gain = change * (FAR - FAR % ring + 4 + more)
                    known = least_start(house, 0, ring + 3, gain) is not None
                    self.assertIs(known, more == 0)
                    self.check_far(house, 0, 2 * FAR, ring + 3, 2 * FAR + gain)

    def test_up_without_down(self):
        house = House(3, [(0, 1, 1, "any"), (1, 1, 2, "any"), (2, 1, 0, "any")])
        self.assertEqual(extras(house, 0, 1), [(0, Line([(1, None, 3, [1])]))])
        self.assertEqual(extras(house.turned(), 1, 0), [(0, Line([(None, -1, 3, [2])]))])
        self.assertEqual(extras(house, 1, 0)[0][1], Line([(2, None, 3, [2])]))
        self.assertEqual(least_start(house, 0, 0, 3 * FAR), 0)
        self.assertIsNone(least_start(house, 0, 0, 3 * FAR + 1))
        self.assertEqual(least_start(house.turned(), 0, 0, -3 * FAR), 3 * FAR)

    def test_gains_of_a_fall(self):
        house = House(1, [(0, -1, 0, "any")])
        self.assertEqual(gains(house, 0, 0, FAR), Line([(-FAR, 0, 1, [0])]))
        self.assertTrue(leads_plain(house, 0, FAR, 0, 0))
        self.assertFalse(leads_plain(house, 0, FAR, 0, FAR + 1))

    def test_needs_below_the_start(self):
        # One round needs two more than it loses: down, down, up, up, and one down.
        house = House(5, [(0, -1, 1, "any"), (1, -1, 2, "any"), (2, 1, 3, "any"), (3, 1, 4, "any"), (4, -1, 0, "any")])
        self.assertEqual([least_start(house, 0, 4, 0), least_start(house, 0, 0, -1), least_start(house, 0, 0, -FAR)],
                         [2, 2, FAR + 1])
        self.assertEqual(extras(house, 0, 0), [(0, Line.of([0])), (1, Line([(None, -1, 1, [0])]))])
        self.assertEqual(extras(house, 0, 4), [(2, Line([(None, 0, 1, [0])]))])

    def test_turned_houses(self):
        for seed in range(80):
            house = random_house(seed, 4, 10, False)
            for place in range(house.places):
                for goal in range(house.places):
                    for gain in (0, 1, 3, FAR):
                        found = least_start(house, place, goal, gain)
                        back = least_start(house.turned(), goal, place, -gain)
                        self.assertEqual(back, None if found is None else found + gain)


class Said(unittest.TestCase):
    def test_errors_of_places(self):
        for value in NO_COUNTS + [2, FAR]:
            for act in (lambda: least_start(STALL, value, None, None), lambda: least_start(STALL, 0, value, None),
                        lambda: extras(STALL, value, None), lambda: extras(house=STALL, place=1, goal=value),
                        lambda: gains(STALL, value, None, None), lambda: gains(STALL, 0, value, None),
                        lambda: leads_plain(STALL, value, None, None, None),
                        lambda: leads_plain(STALL, 0, 0, value, None),
                        lambda: plain_going(STALL, value, None, None, None),
                        lambda: plain_going(goal=value, house=STALL, place=0, start=0, end=None)):
                with self.assertRaises(InvalidPlace) as caught:
                    act()
                self.assertIs(caught.exception.value, value)

    def test_errors_of_numbers(self):
        for value in NO_COUNTS:
            for act in (lambda: gains(STALL, 0, 1, value), lambda: leads_plain(STALL, 0, value, None, None),
                        lambda: leads_plain(STALL, 0, 0, 1, value), lambda: plain_going(STALL, 0, value, None, None),
                        lambda: plain_going(STALL, 0, 0, 1, end=value)):
                with self.assertRaises(InvalidMany) as caught:
                    act()
                self.assertIs(caught.exception.value, value)
        for value in NO_INTEGERS:
            with self.assertRaises(InvalidNumber) as caught:
                least_start(STALL, 0, 1, gain=value)
            self.assertIs(caught.exception.value, value)

    def test_going_nowhere(self):
        self.assertEqual(plain_going(STALL, 1, 4, 1, 4), [])
        self.assertIsNone(plain_going(STALL, 1, 4, 0, 4))

    def test_new_lists(self):
        extras(STALL, 0, 1).append(None)
        plain_going(STALL, 0, 3, 1, 5).append(None)
        self.assertEqual(len(extras(STALL, 0, 1)), 1)
        self.assertTrue(is_going(STALL, 0, 3, plain_going(STALL, 0, 3, 1, 5)))

    def test_examples(self):
        self.assertEqual([least_start(STALL, 0, 1, -(10 ** 20)), least_start(STALL, 1, 0, 0),
                          leads_plain(STALL, 0, 3, 1, 10 ** 25)], [10 ** 20, None, True])


if __name__ == "__main__":
    unittest.main()
