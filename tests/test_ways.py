"""Point 37: goings from stand to stand, "empty" deeds among all, told in laps."""

import unittest

from lonetill.empties import leads
from lonetill.errors import InvalidMany, InvalidPlace
from lonetill.goings import behind, is_going
from lonetill.houses import House
from lonetill.ways import a_going
from tests.odd import NO_COUNTS
from tests.test_ends import ring_house
from tests.walked import come_to_from, random_house, spare

FAR = 10 ** 29
HOUSE = House(2, [(0, -1, 0, "any"), (0, 0, 1, "empty"), (1, 1, 1, "any")])


def lists_within(going):
    """How many lists stand within one another."""
    return 1 + max([lists_within(item[0]) for item in going if isinstance(item, tuple)], default=0)


def longest(going):
    """The length of the longest list of the going."""
    return max([len(going)] + [longest(item[0]) for item in going if isinstance(item, tuple)])


class Ways(unittest.TestCase):
    def check(self, house, place, start, goal, end):
        """Looks at the told going; whether there is one."""
        going = a_going(house, place, start, goal, end)
        if going is None:
            return False
        self.assertIs(is_going(house, place, start, going), True)
        self.assertEqual(behind(house, place, start, going), (goal, end))
        self.assertIsInstance(going, list)
        self.assertLessEqual(lists_within(going), 4)
        self.assertLessEqual(longest(going), 4000)
        return True

    def test_against_walking(self):
        for seed in range(60):
            house = random_house(seed, 4, 9)
            place = seed % house.places
            for start in (0, 1, 4):
                seen = come_to_from(house, (place, start), 7 + spare(house))
                for goal in range(house.places):
                    for end in range(7):
                        self.assertIs(self.check(house, place, start, goal, end), (goal, end) in seen)

    def test_far(self):
        many = 0
        for seed in range(120):
            house = random_house(seed, 5, 10)
            place, goal = seed % house.places, (seed // 7) % house.places
            for start in (0, 3, FAR - 1, FAR):
                for end in (0, 2, FAR, FAR + 1):
                    told = self.check(house, place, start, goal, end)
                    self.assertIs(told, leads(house, place, start, goal, end))
                    many += told
        self.assertGreater(many, 200)

    def test_through_the_empty_till_alone(self):
        for start, end in ((0, 0), (5, 0), (FAR, FAR), (3, FAR), (FAR, 3)):
            self.assertIs(self.check(HOUSE, 0, start, 1, end), True)
            self.assertIs(self.check(HOUSE, 1, start, 0, end), False)

    def test_hops_at_zero(self):
        # From place to place at 0 by an "empty" deed up and a deed down, again and again.
        deeds = [(k, 1, k + 8, "empty") for k in range(7)] + [(k + 8, -1, k + 1, "any") for k in range(7)]
        house = House(16, deeds + [(0, -1, 0, "any"), (7, 1, 15, "empty"), (15, 1, 15, "any")])
        self.assertIs(self.check(house, 0, FAR, 7, 0), True)
        self.assertIs(self.check(house, 0, FAR, 15, FAR), True)
        self.assertIs(self.check(house, 0, FAR, 15, 0), False)

    def test_great_houses(self):
        deeds = [(k, 1, (k + 1) % 7, "any") for k in range(7)] + [(0, 0, 7, "any"), (15, 1, 0, "empty"), (15, 0, 3, "empty")]
        deeds += [(7 + k, -1, 7 + (k + 1) % 9, "any") for k in range(9)]
        house = House(16, deeds)
        told = [self.check(house, 0, start, goal, end) for start in (0, 5, FAR) for goal in (3, 15)
                for end in (0, 4, FAR, FAR + 4)]
        self.assertEqual(told, [leads(house, 0, start, goal, end) for start in (0, 5, FAR) for goal in (3, 15)
                                for end in (0, 4, FAR, FAR + 4)])
        self.assertIn(True, told)

    def test_houses_of_five_places_never_have_too_many(self):
        for ups in range(1, 6):
            for downs in range(1, 6):
                house = ring_house(ups, downs, (ups + downs) % 2)
                for end in (2, FAR):
                    self.assertIs(self.check(house, 0, 61, 0, end), leads(house, 0, 61, 0, end))
                    self.assertIs(self.check(house, 4, FAR, 0, end), leads(house, 4, FAR, 0, end))

    def test_a_stand_to_itself(self):
        for number in (0, 7, FAR):
            going = a_going(HOUSE, 1, number, 1, number)
            self.assertEqual(behind(HOUSE, 1, number, going), (1, number))

    def test_errors(self):
        for odd in NO_COUNTS + [2]:
            for call in (lambda: a_going(HOUSE, odd, None, None, None), lambda: a_going(HOUSE, 0, 0, odd, None),
                         lambda: a_going(end=0, goal=0, start=0, place=odd, house=HOUSE)):
                with self.assertRaises(InvalidPlace) as caught:
                    call()
                self.assertIs(caught.exception.value, odd)
        for odd in NO_COUNTS:
            for call in (lambda: a_going(HOUSE, 0, odd, None, None), lambda: a_going(HOUSE, 0, 0, 0, odd)):
                with self.assertRaises(InvalidMany) as caught:
                    call()
                self.assertIs(caught.exception.value, odd)

    def test_new_each_time(self):
        going = a_going(HOUSE, 0, 5, 1, 3)
        told = repr(going)
        for item in going:
            if isinstance(item, tuple):
                item[0].clear()
        going.clear()
        self.assertEqual(repr(a_going(HOUSE, 0, 5, 1, 3)), told)

    def test_example(self):
        self.assertEqual([is_going(HOUSE, 0, 10 ** 25, a_going(HOUSE, 0, 10 ** 25, 1, 3)), a_going(HOUSE, 1, 0, 0, 0)],
                         [True, None])


if __name__ == "__main__":
    unittest.main()
