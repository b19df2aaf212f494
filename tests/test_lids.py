"""Point 73: lids, floors and strips, against plain goings walked within so much above and below."""

import unittest

from lonetill.errors import InvalidMany
from lonetill.houses import House
from lonetill.lids import floors, lids, strip
from tests.odd import NO_COUNTS
from tests.roofed import CLIMBERS, FAR
from tests.walked import come_to_from, random_house

HOUSE = House(3, [(0, 1, 1, "any"), (1, 0, 1, "any"), (1, -1, 2, "any"), (2, 1, 2, "empty")])


def walked_strip(house, low, high):
    """The sorted pairs of plain goings of gain 0 that fall at most low and rise at most high."""
    return sorted((place, goal) for place in range(house.places)
                  for goal, number in come_to_from(house, (place, low), low + high, True) if number == low)


def walked_list(house, is_lid):
    """The strips above (or below) up to the first one that is like the next one."""
    out = [walked_strip(house, 0, 0)]
    while True:
        room = len(out)
        more = walked_strip(house, 0, room) if is_lid else walked_strip(house, room, 0)
        if more == out[-1]:
            return out
        out.append(more)


class Lids(unittest.TestCase):
    def test_against_walks(self):
        for seed in range(150):
            house = random_house(seed, 4, 9)
            self.assertEqual(lids(house), walked_list(house, True))
            self.assertEqual(floors(house), walked_list(house, False))
            for low in range(5):
                for high in range(5):
                    self.assertEqual(strip(house, low, high), walked_strip(house, low, high))

    def test_far_climbs(self):
        longest = 0
        for house in CLIMBERS[:4]:
            told, below = lids(house), floors(house)
            self.assertEqual(told, walked_list(house, True))
            self.assertEqual(below, walked_list(house, False))
            longest = max(longest, len(told), len(below))
            self.assertLess(len(told), house.places ** 2 + 1)
            for low in (0, 1, len(below) - 1, len(below) + 3):
                for high in (0, 2, len(told) - 1, len(told) + 3):
                    self.assertEqual(strip(house, low, high), walked_strip(house, low, high))
        self.assertGreater(longest, 10)

    def test_where_the_lists_end(self):
        for house in CLIMBERS:
            for told in (lids(house), floors(house)):
                self.assertEqual(len({str(pairs) for pairs in told}), len(told))
                for pairs, more in zip(told, told[1:]):
                    self.assertLess(set(pairs), set(more))
            self.assertEqual(lids(house)[0], strip(house, 0, 0))
            self.assertEqual(lids(house)[-1], strip(house, 0, len(lids(house)) + 5))
            self.assertEqual(floors(house)[-1], strip(house, len(floors(house)) + 5, 0))

    def test_great_room(self):
        for seed in range(40):
            house = random_house(seed, 3, 7)
            most = house.places ** 2
            self.assertEqual(strip(house, FAR, FAR), walked_strip(house, most, most))
            self.assertEqual(strip(house, FAR, 0), floors(house)[-1])
            self.assertEqual(strip(house, 0, FAR), lids(house)[-1])
            self.assertEqual(strip(house, 1, FAR), walked_strip(house, 1, most))

    def test_empty_deeds_have_no_part(self):
        for seed in range(40):
            house = random_house(seed, 3, 8)
            self.assertEqual((lids(house), floors(house), strip(house, 2, 3)),
                             (lids(house.plain()), floors(house.plain()), strip(house.plain(), 2, 3)))
        house = House(2, [(0, 0, 1, "empty"), (1, 1, 0, "empty"), (0, -1, 1, "any")])
        self.assertEqual((lids(house), floors(house), strip(house, 9, 9)), ([[(0, 0), (1, 1)]], [[(0, 0), (1, 1)]], [(0, 0), (1, 1)]))

    def test_no_deeds(self):
        self.assertEqual((lids(House(1, [])), floors(House(1, [])), strip(House(1, []), 0, 0)), ([[(0, 0)]], [[(0, 0)]], [(0, 0)]))

    def test_results_are_new(self):
        lids(HOUSE)[0].clear()
        floors(HOUSE).clear()
        strip(HOUSE, 1, 1).clear()
        self.assertEqual(lids(HOUSE)[0], [(0, 0), (1, 1), (2, 2)])
        self.assertEqual(floors(HOUSE), [[(0, 0), (1, 1), (2, 2)]])
        self.assertEqual(strip(high=1, low=1, house=HOUSE), [(0, 0), (0, 2), (1, 1), (2, 2)])

    def test_errors(self):
        for odd in NO_COUNTS:
            for call in (lambda: strip(HOUSE, odd, None), lambda: strip(HOUSE, 0, odd), lambda: strip(high=odd, low=0, house=HOUSE)):
                with self.assertRaises(InvalidMany) as caught:
                    call()
                self.assertIs(caught.exception.value, odd)

    def test_example(self):
        self.assertEqual([lids(HOUSE), strip(HOUSE, 1, 0)],
                         [[[(0, 0), (1, 1), (2, 2)], [(0, 0), (0, 2), (1, 1), (2, 2)]], [(0, 0), (1, 1), (2, 2)]])


if __name__ == "__main__":
    unittest.main()
