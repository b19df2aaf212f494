"""Points 23 and 24: levels, climbs and drops, against plain goings walked stand by stand."""

import unittest

from lonetill.houses import House
from lonetill.levels import climbs, drops, levels
from tests.walked import come_to_from, random_house, spare

STALL = House(2, [(0, 1, 0, "any"), (0, 0, 1, "any"), (1, -1, 1, "any"), (1, 0, 0, "empty")])


def walked_level(house, need):
    """The sorted pairs between which plain goings of gain 0 and at most this need lead."""
    out = []
    for place in range(house.places):
        seen = come_to_from(house, (place, need), need + spare(house), True)
        out += [(place, goal) for goal in range(house.places) if (goal, need) in seen]
    return out


def walked_climbs(house):
    """Pairs of a deed up, and of what never falls below it."""
    ground = walked_level(house, 0)
    return sorted({(place, end) for place, change, goal, when in house.deeds() if change == 1 and when == "any"
                   for begin, end in ground if begin == goal})


def walked_drops(house):
    """Pairs of what never falls, and of a deed down behind it."""
    ground = walked_level(house, 0)
    return sorted({(begin, goal) for place, change, goal, when in house.deeds() if change == -1
                   for begin, end in ground if end == place})


class Levels(unittest.TestCase):
    def test_against_walking(self):
        deepest = 0
        for seed in range(400):
            house = random_house(seed, 5, 14)
            found = levels(house)
            deepest = max(deepest, len(found))
            for need in range(len(found) + 2):
                self.assertEqual(found[min(need, len(found) - 1)], walked_level(house, need), (house, need))
            for one, two in zip(found, found[1:]):
                self.assertNotEqual(one, two)
            self.assertEqual((climbs(house), drops(house)), (walked_climbs(house), walked_drops(house)))
        self.assertGreater(deepest, 2)

    def test_empty_deeds_have_no_part(self):
        for seed in range(60):
            house = random_house(seed, 4, 12)
            self.assertEqual(levels(house), levels(house.plain()))
            self.assertEqual(climbs(house=house), climbs(house.plain()))
            self.assertEqual(drops(house=house), drops(house.plain()))

    def test_a_deep_one(self):
        # Three rounds down and five up: a going of gain 0 needs what the rounds together need.
        down = [(k, -1, (k + 1) % 3, "any") for k in range(3)]
        up = [(0, 1, 3, "any"), (3, 1, 4, "any"), (4, 1, 0, "any")]
        house = House(6, down + up + [(0, -1, 5, "any"), (5, -1, 5, "any"), (5, 1, 1, "any")])
        found = levels(house)
        for need in range(len(found) + 2):
            self.assertEqual(found[min(need, len(found) - 1)], walked_level(house, need))

    def test_house_without_deeds(self):
        house = House(16, [])
        self.assertEqual((levels(house), climbs(house), drops(house)), ([[(k, k) for k in range(16)]], [], []))

    def test_examples(self):
        self.assertEqual([levels(STALL), climbs(STALL), drops(STALL)],
                         [[[(0, 0), (0, 1), (1, 1)]], [(0, 0), (0, 1)], [(0, 1), (1, 1)]])

    def test_new_lists(self):
        levels(STALL)[0].append(None)
        levels(STALL).append(None)
        climbs(STALL).append(None)
        drops(STALL).append(None)
        self.test_examples()


if __name__ == "__main__":
    unittest.main()
