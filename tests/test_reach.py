"""Points 42 and 48: the reach of a house, against goings walked stand by stand and against leads."""

import random
import unittest

from lonetill.composed import composed, middles
from lonetill.empties import leads
from lonetill.errors import InvalidPlace
from lonetill.grids import Grid, is_blocks_of, reach, within
from lonetill.houses import House
from lonetill.lines import Line
from tests.odd import NO_COUNTS
from tests.walked import come_to_from, random_house, spare

FAR = 10 ** 29
ROUND = House(3, [(0, 1, 1, "any"), (1, 1, 0, "any"), (0, -1, 2, "any"), (2, -1, 2, "any"), (2, 0, 0, "empty")])
HOUSE = House(2, [(0, -1, 0, "any"), (0, 0, 1, "empty"), (1, 1, 1, "any")])
SAME = Grid([(None, None, Line.of([0]))])


def three_places(seed):
    """A house of three places with a few deeds that mostly lead in rings."""
    dice = random.Random(seed)
    deeds = []
    for _ in range(dice.randint(3, 8)):
        when = "empty" if dice.random() < 0.25 else "any"
        change = dice.choice([0, 1] if when == "empty" else [-1, 1, -1, 1, 0])
        deed = (dice.randrange(3), change, dice.randrange(3), when)
        if deed not in deeds:
            deeds.append(deed)
    return House(3, deeds)


class Reach(unittest.TestCase):
    def test_against_walking(self):
        for seed in range(60):
            house = random_house(seed, 4, 9)
            place = seed % house.places
            grids = [reach(house, place, goal) for goal in range(house.places)]
            for start in range(6):
                seen = come_to_from(house, (place, start), 8 + spare(house))
                for goal, grid in enumerate(grids):
                    self.assertEqual([grid.has(start, end) for end in range(9)],
                                     [(goal, end) in seen for end in range(9)])

    def test_far(self):
        for seed in range(60):
            house = random_house(seed, 5, 10)
            dice = random.Random(seed)
            place, goal = dice.randrange(house.places), dice.randrange(house.places)
            grid = reach(house, place, goal)
            for start in (0, 1, 4, FAR - 1, FAR):
                line = grid.at(start)
                for end in (0, 2, 5, FAR - 2, FAR, FAR + 1, FAR + 6):
                    led = leads(house, place, start, goal, end)
                    self.assertEqual((grid.has(start, end), line.has(end)), (led, led))

    def test_three_places_never_have_too_many(self):
        for seed in range(80):
            one, two = three_places(seed), three_places(seed + 1000)
            dice = random.Random(seed)
            left, right = [reach(house, dice.randrange(3), dice.randrange(3)) for house in (one, two)]
            self.assertEqual((left | right) - right, left - right)
            self.assertEqual((left & right) | (left - right), left)
            self.assertIs(left == right, left.parting(right) is None)
            self.assertIs(left.is_within(left | right), True)
            other = left.other()
            self.assertIs(other.other() == left, True)
            for grid in (left, other):
                self.assertIs(is_blocks_of(grid, grid.blocks()), True)
                self.assertEqual(grid.turned().turned(), grid)
                self.assertEqual(grid.shifted(2, 5).shifted(-2, -5), grid)
                for start in (0, 3, FAR):
                    self.assertIs(grid.some().has(start), not grid.at(start).is_empty)
                    self.assertIs(grid.each().has(start), Line.counts().is_within(grid.at(start)))
                    self.assertIs(middles(left, right, start, 3) == left.at(start) & right.turned().at(3), True)
                self.assertEqual(grid.first() is None, grid.is_empty)
            odd = Line([(3, None, 2, [1])])
            self.assertEqual(within(left, odd, odd).some(), within(left, odd, odd).some() & odd)

    def test_a_place_to_itself(self):
        for seed in range(40):
            house = random_house(seed, 4, 8)
            for place in range(house.places):
                self.assertIs(SAME.is_within(reach(house, place, place)), True)
        self.assertEqual(reach(House(2, []), 0, 0), SAME)
        self.assertEqual(reach(House(2, []), 0, 1), Grid.none())

    def test_reach_behind_reach(self):
        for seed in range(40):
            house = three_places(seed)
            dice = random.Random(seed)
            place, goal, third = [dice.randrange(3) for _ in range(3)]
            both = composed(reach(house, place, goal), reach(house, goal, third))
            self.assertIs(both.is_within(reach(house, place, third)), True)
            self.assertIs(composed(reach(house, place, place), reach(house, place, third)) == reach(house, place, third), True)

    def test_all_others(self):
        other = reach(HOUSE, 0, 1).other()
        self.assertEqual(other, Grid.none())
        self.assertEqual(reach(HOUSE, 1, 1).other(), Grid([(None, None, Line([(None, -1, 1, [0])]))]))
        # From place 0 of the house in the overview: odd starts come to all, even ones to even ends alone.
        grid = reach(ROUND, 0, 0)
        self.assertEqual([grid.at(start) for start in (5, 0)], [Line([(0, None, 2, [0]), (5, None, 2, [1])]), Line([(0, None, 2, [0])])])
        self.assertEqual((grid.other().first(), grid.other().some()), ((0, 1), Line.counts() - Line.of([1])))

    def test_great_houses(self):
        deeds = [(k, 1, (k + 1) % 7, "any") for k in range(7)] + [(0, 0, 7, "any"), (15, 1, 0, "empty"), (15, 0, 3, "empty")]
        house = House(16, deeds + [(7 + k, -1, 7 + (k + 1) % 9, "any") for k in range(9)])
        grid = reach(house, 0, 0)
        for start in (0, 3, FAR):
            for end in (0, 7, FAR, FAR + 3):
                self.assertIs(grid.has(start, end), leads(house, 0, start, 0, end))

    def test_errors(self):
        for odd in NO_COUNTS + [2]:
            for call in (lambda: reach(HOUSE, odd, None), lambda: reach(HOUSE, 1, odd), lambda: reach(goal=odd, place=0, house=HOUSE)):
                with self.assertRaises(InvalidPlace) as caught:
                    call()
                self.assertIs(caught.exception.value, odd)


if __name__ == "__main__":
    unittest.main()
