"""Points 77, 78: pairs with room, how tight a house is, and room tables, against least roofs pair by pair."""

import random
import unittest

from lonetill.errors import InvalidMany, InvalidPlace
from lonetill.grids import Grid, reach
from lonetill.houses import House
from lonetill.roofs import least_roof
from lonetill.tight import room_table, tight, with_room
from tests.odd import NO_COUNTS
from tests.roofed import CLIMBERS, FAR, come_to_under, dice_rings
from tests.walked import random_house

HOUSE = House(3, [(0, 1, 1, "any"), (1, 0, 1, "any"), (1, -1, 2, "any"), (2, 1, 2, "empty")])


def spares(house, place, goal, pairs):
    """For each pair its spare, or None where it does not lead."""
    out = {}
    for start, end in pairs:
        roof = least_roof(house, place, start, goal, end)
        out[start, end] = None if roof is None else roof - max(start, end)
    return out


def near_pairs(most):
    """All pairs of small numbers, and some far ones."""
    out = [(start, end) for start in range(most) for end in range(most)]
    return out + [(FAR + k, end) for k in (0, 1) for end in (0, 1, 5, FAR - 2, FAR, FAR + 1, FAR + 7, 3 * FAR)] + [(start, FAR) for start in (0, 1, 3)]


class Tight(unittest.TestCase):
    def check(self, house, place, goal, most):
        told = spares(house, place, goal, near_pairs(most))
        right = max([spare for spare in told.values() if spare is not None], default=0)
        many = tight(house, place, goal)
        self.assertEqual(many, right)
        self.assertLess(many, house.places ** 2)
        table = room_table(house, place, goal)
        self.assertEqual([room for room, _ in table], sorted({0} | {spare for spare in told.values() if spare is not None}))
        for room in sorted({0, 1, 2, many, many + 1, max(0, many - 1), FAR}):
            grid = with_room(house, place, goal, room)
            for (start, end), spare in told.items():
                self.assertIs(grid.has(start, end), spare is not None and spare <= room)
        self.assertEqual(with_room(house, place, goal, many), reach(house, place, goal))
        if many > 0:
            self.assertNotEqual(with_room(house, place, goal, many - 1), reach(house, place, goal))
        before = None
        for room, grid in table:
            self.assertIsInstance(grid, Grid)
            self.assertEqual(grid, with_room(house, place, goal, room))
            if before is not None:
                self.assertTrue(before.is_within(grid) and not grid.is_within(before))
            before = grid
        return many

    def test_small_houses(self):
        for seed in range(70):
            house, dice = random_house(seed, 3, 9), random.Random(seed)
            self.check(house, dice.randrange(house.places), dice.randrange(house.places), 2 * house.places ** 2 + 4)

    def test_four_places(self):
        for seed in range(12):
            house, dice = random_house(seed, 4, 10), random.Random(seed)
            self.check(house, dice.randrange(house.places), dice.randrange(house.places), 16)

    def test_against_walks(self):
        for seed in range(25):
            house, dice = random_house(seed + 500, 3, 8), random.Random(seed)
            place, goal, many = dice.randrange(house.places), dice.randrange(house.places), dice.randint(0, 4)
            grid = with_room(house, place, goal, many)
            for start in range(7):
                for end in range(7):
                    roof = max(start, end) + many
                    self.assertIs(grid.has(start, end), (goal, end) in come_to_under(house, (place, start), roof))

    def test_rings_by_dice(self):
        for seed in range(40):
            dice = random.Random(seed)
            house = dice_rings(dice, dice.randint(2, 4))
            place, goal, many = dice.randrange(house.places), dice.randrange(house.places), dice.randint(0, 6)
            grid = with_room(house, place, goal, many)
            for start in range(0, 12, 2):
                for end in range(0, 12, 3):
                    roof = max(start, end) + many
                    self.assertIs(grid.has(start, end), (goal, end) in come_to_under(house, (place, start), roof))

    def test_far_climbs(self):
        found = [self.check(CLIMBERS[0], place, goal, 8) for place in range(3) for goal in range(3)]
        self.assertGreater(max(found), 1)
        self.assertGreater(self.check(CLIMBERS[1], 0, 1, 14), 2)

    def test_three_places_never_too_many(self):
        # Every kind of deed, about a ring up and a ring down.
        for seed in range(60):
            dice = random.Random(seed)
            deeds = [(0, 1, 1, "any"), (1, 1, 2, "any"), (2, 1, 0, "any"), (0, -1, 1, "any"), (1, -1, 0, "any")][:dice.randint(2, 5)]
            for _ in range(dice.randint(1, 12)):
                when = dice.choice(["any", "empty"])
                deed = (dice.randrange(3), dice.choice([0, 1] if when == "empty" else [-1, 0, 1]), dice.randrange(3), when)
                deeds += [] if deed in deeds else [deed]
            house = House(3, deeds)
            for place in range(3):
                table = room_table(house, place, 2)
                self.assertLess(tight(house, place, 2), 9)
                self.assertEqual(table[-1][1], reach(house, place, 2))

    def test_nothing_leads(self):
        house = House(2, [(1, 1, 0, "any")])
        self.assertEqual((tight(house, 0, 1), with_room(house, 0, 1, 5)), (0, Grid.none()))
        self.assertEqual([(room, grid.is_empty) for room, grid in room_table(house, 0, 1)], [(0, True)])

    def test_one_place(self):
        self.assertEqual((tight(House(1, []), 0, 0), with_room(House(1, []), 0, 0, 0).at(FAR).least()), (0, FAR))
        self.assertEqual(with_room(House(1, [(0, 1, 0, "any"), (0, -1, 0, "any")]), 0, 0, 0), Grid.every())

    def test_results_are_new(self):
        room_table(HOUSE, 0, 2).clear()
        self.assertEqual([room for room, _ in room_table(goal=2, place=0, house=HOUSE)], [0, 1])
        self.assertEqual((tight(goal=2, place=0, house=HOUSE), with_room(many=1, goal=2, place=0, house=HOUSE).has(7, 7)), (1, True))

    def test_errors(self):
        for odd in NO_COUNTS + [3]:
            for call in (lambda: with_room(HOUSE, odd, None, None), lambda: with_room(HOUSE, 0, odd, None), lambda: tight(HOUSE, odd, None),
                         lambda: tight(HOUSE, 0, odd), lambda: room_table(HOUSE, odd, None), lambda: room_table(goal=odd, place=0, house=HOUSE)):
                with self.assertRaises(InvalidPlace) as caught:
                    call()
                self.assertIs(caught.exception.value, odd)
        for odd in NO_COUNTS:
            for call in (lambda: with_room(HOUSE, 0, 0, odd), lambda: with_room(many=odd, goal=0, place=0, house=HOUSE)):
                with self.assertRaises(InvalidMany) as caught:
                    call()
                self.assertIs(caught.exception.value, odd)

    def test_example(self):
        self.assertEqual([tight(HOUSE, 0, 2), with_room(HOUSE, 0, 2, 0).has(7, 7), with_room(HOUSE, 0, 2, 0).has(0, 1)], [1, False, True])


if __name__ == "__main__":
    unittest.main()
