"""Points 5 and 31: what leads at empty, and what leads at all."""

import random
import unittest

from lonetill.empties import at_empty, leads
from lonetill.ends import ends, starts
from lonetill.errors import InvalidMany, InvalidPlace
from lonetill.gains import leads_plain
from lonetill.houses import House
from tests.odd import NO_COUNTS
from tests.walked import come_to_from, random_house, spare

FAR = 10 ** 25
HOUSE = House(2, [(0, -1, 0, "any"), (0, 0, 1, "empty"), (1, 1, 1, "any")])
ROUND = House(3, [(0, 1, 1, "any"), (1, 1, 0, "any"), (0, -1, 2, "any"), (2, -1, 2, "any"), (2, 0, 0, "empty")])


class AtEmpty(unittest.TestCase):
    def test_against_walking(self):
        more = 0
        for seed in range(400):
            house = random_house(seed, 4, 9)
            pairs = [(place, goal) for place in range(house.places) for goal in range(house.places)
                     if (goal, 0) in come_to_from(house, (place, 0), spare(house))]
            self.assertEqual(at_empty(house), pairs, house)
            more += len(pairs) > len(at_empty(house.plain()))
        self.assertGreater(more, 20)

    def test_up_at_empty_and_down_again(self):
        house = House(3, [(0, 1, 1, "empty"), (1, -1, 2, "any")])
        self.assertEqual(at_empty(house), [(0, 0), (0, 2), (1, 1), (2, 2)])
        house = House(3, [(0, 1, 1, "empty"), (1, 1, 2, "any"), (2, -1, 1, "any")])
        self.assertEqual(at_empty(house=house), [(0, 0), (1, 1), (2, 2)])

    def test_new_list(self):
        at_empty(HOUSE).append(None)
        self.assertEqual(at_empty(HOUSE), [(0, 0), (0, 1), (1, 1)])


class Leads(unittest.TestCase):
    def test_against_walking(self):
        for seed in range(250):
            house = random_house(seed, 4, 9)
            for place in range(house.places):
                for start in range(6):
                    seen = come_to_from(house, (place, start), 6 + spare(house))
                    for goal in range(house.places):
                        for end in range(6):
                            self.assertIs(leads(house, place, start, goal, end), (goal, end) in seen)

    def test_what_is_needed_behind_a_deed_up(self):
        # From 1 one can go down once, not twice; the place 3 is come to behind two deeds down.
        deeds = [(0, 1, 1, "empty"), (1, -1, 2, "any"), (2, -1, 3, "any"), (3, 1, 4, "any"), (4, 1, 5, "any")]
        house = House(6, deeds)
        for goal, known in ((0, True), (1, True), (2, True), (3, False), (4, False), (5, False)):
            self.assertIs(any(leads(house, 0, 0, goal, end) for end in range(9)), known)
        near = House(6, deeds[:1] + [(1, 0, 2, "any")] + deeds[2:])
        for goal, known in ((2, True), (3, True), (4, True), (5, True)):
            self.assertIs(any(leads(near, 0, 0, goal, end) for end in range(9)), known)
        self.assertIs(leads(near, 0, 0, 5, 2), True)

    def test_far_numbers(self):
        dice = random.Random(2)
        for seed in range(100):
            house = random_house(seed, 4, 9)
            for _ in range(6):
                place, goal = dice.randrange(house.places), dice.randrange(house.places)
                start, end = dice.choice([0, 3, FAR, FAR + 2]), dice.choice([1, 6, FAR, FAR + 1, 3 * FAR])
                known = leads(house, place, start, goal, end)
                self.assertIs(ends(house, place, start)[goal].has(end), known)
                self.assertIs(starts(house, goal, end)[place].has(start), known)
                if house.is_plain:
                    self.assertIs(leads_plain(house, place, start, goal, end), known)

    def test_the_overview(self):
        found = [end for end in range(12) if leads(ROUND, 0, 5, 0, end)]
        self.assertEqual(found, [0, 2, 4, 5, 6, 7, 8, 9, 10, 11])
        self.assertEqual([end for end in range(9) if leads(ROUND, 0, 0, 0, end)], [0, 2, 4, 6, 8])
        self.assertIs(leads(ROUND, 0, 10 ** 29 + 1, 0, 10 ** 29), True)
        self.assertIs(leads(ROUND, 0, 10 ** 29, 0, 10 ** 29 - 1), False)
        self.assertIs(leads(ROUND, 0, 1, 0, 5 * FAR), True)

    def test_errors(self):
        for value in NO_COUNTS + [2, FAR]:
            for act in (lambda: leads(HOUSE, value, None, None, None), lambda: leads(HOUSE, 0, 0, value, None)):
                with self.assertRaises(InvalidPlace) as caught:
                    act()
                self.assertIs(caught.exception.value, value)
        for value in NO_COUNTS:
            for act in (lambda: leads(HOUSE, 0, value, None, None),
                        lambda: leads(end=value, goal=1, start=0, place=0, house=HOUSE)):
                with self.assertRaises(InvalidMany) as caught:
                    act()
                self.assertIs(caught.exception.value, value)

    def test_examples(self):
        self.assertEqual([at_empty(HOUSE), leads(HOUSE, 0, 10 ** 25, 1, 3), leads(HOUSE, 1, 2, 0, 0)],
                         [[(0, 0), (0, 1), (1, 1)], True, False])


if __name__ == "__main__":
    unittest.main()
