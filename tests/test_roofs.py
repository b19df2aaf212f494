"""Points 71, 72, 74, 75: what leads under a roof, least roofs, ends and starts under a roof."""

import random
import unittest

from lonetill.empties import leads
from lonetill.ends import ends, starts
from lonetill.errors import InvalidMany, InvalidPlace
from lonetill.houses import House
from lonetill.lines import Line
from lonetill.roofs import least_roof, leads_under, roof_ends, roof_starts
from tests.odd import NO_COUNTS
from tests.roofed import CLIMBERS, FAR, come_to_under, dice_rings, walked_roof
from tests.walked import numbers_of, random_house

HOUSE = House(3, [(0, 1, 1, "any"), (1, 0, 1, "any"), (1, -1, 2, "any"), (2, 1, 2, "empty")])


class Roofs(unittest.TestCase):
    def test_against_walks(self):
        for seed in range(250):
            house, dice = random_house(seed, 4, 9), random.Random(seed)
            place, start, roof = dice.randrange(house.places), dice.randint(0, 7), dice.randint(0, 11)
            found = come_to_under(house, (place, start), roof)
            ahead, back = roof_ends(house, place, start, roof), roof_starts(house, place, start, roof)
            self.assertEqual((list(ahead), list(back)), (list(range(house.places)),) * 2)
            for goal in range(house.places):
                self.assertEqual(numbers_of(ahead[goal], -3, roof + 9), {number for at, number in found if at == goal})
                self.assertEqual(ahead[goal], Line.of([number for at, number in found if at == goal]))
                for number in range(roof + 3):
                    self.assertIs(leads_under(house, place, start, goal, number, roof), (goal, number) in found)
                    is_start = (place, start) in come_to_under(house, (goal, number), roof) and start <= roof
                    self.assertIs(back[goal].has(number), is_start)
                self.assertIs(back[goal].is_within(Line([(0, roof, 1, [0])])), True)

    def test_least_roofs_against_walks(self):
        for seed in range(150):
            house, dice = random_house(seed, 4, 10), random.Random(seed)
            place, start = dice.randrange(house.places), dice.randint(0, 6)
            for goal in range(house.places):
                for end in range(7):
                    roof = walked_roof(house, (place, start), (goal, end), house.places ** 2 + 6)
                    self.assertEqual(least_roof(house, place, start, goal, end), roof)
                    self.assertIs(roof is None, not leads(house, place, start, goal, end))

    def test_far_climbs_against_walks(self):
        spares = []
        for house in CLIMBERS[:4]:
            for place, start in ((0, 0), (0, 3), (house.places - 1, 1), (1, 12)):
                for goal in range(0, house.places, 2):
                    for end in (0, 1, 5, 13):
                        roof = walked_roof(house, (place, start), (goal, end), 40)
                        self.assertEqual(least_roof(house, place, start, goal, end), roof)
                        if roof is not None:
                            spares.append(roof - max(start, end))
                            self.assertIs(leads_under(house, place, start, goal, end, roof), True)
                            self.assertIs(leads_under(house, place, start, goal, end, roof + 1), True)
                            if roof > 0:
                                self.assertIs(leads_under(house, place, start, goal, end, roof - 1), False)
        self.assertGreater(max(spares), 8)

    def test_rings_by_dice(self):
        for seed in range(200):
            dice = random.Random(seed)
            house = dice_rings(dice, dice.randint(2, 9))
            place, start = dice.randrange(house.places), dice.choice([0, 1, 2, 5, 17])
            roof = start + dice.choice([0, 1, 2, 7, 30])
            found = come_to_under(house, (place, start), roof)
            ahead, back = roof_ends(house, place, start, roof), roof_starts(house, place, start, roof)
            for goal in range(house.places):
                self.assertEqual(ahead[goal], Line.of([number for at, number in found if at == goal]))
                number = dice.randint(0, roof)
                self.assertIs(back[goal].has(number), (place, start) in come_to_under(house, (goal, number), roof))
                least = least_roof(house, place, start, goal, number)
                self.assertIs(least is not None and least <= roof, (goal, number) in found)

    def test_ends_of_far_climbs(self):
        for house in CLIMBERS[:4]:
            for place, start, roof in ((0, 0, 5), (0, 4, 12), (1, 20, 33), (house.places - 1, 2, 40)):
                found = come_to_under(house, (place, start), roof)
                ahead = roof_ends(house, place, start, roof)
                for goal in range(house.places):
                    self.assertEqual(ahead[goal], Line.of([number for at, number in found if at == goal]))
                    back = roof_starts(house, goal, 7, roof)
                    self.assertIs(back[place].has(start), (goal, 7) in found)

    def test_great_numbers(self):
        # What leads from far up to far up is moved with both numbers, by what comes again together.
        for seed in range(60):
            house, dice = random_house(seed, 3, 8), random.Random(seed)
            near, far = 300, FAR - FAR % 60
            place, goal = dice.randrange(house.places), dice.randrange(house.places)
            for start in (near, near + 1):
                for end in (near - 2, near, near + 5):
                    roof = least_roof(house, place, start, goal, end)
                    more = least_roof(house, place, start + far, goal, end + far)
                    self.assertEqual(more, None if roof is None else roof + far)
                for end in (0, 3):
                    roof, more = least_roof(house, place, start, goal, end), least_roof(house, place, start + far, goal, end)
                    self.assertEqual(more, None if roof is None else roof + far)
                    roof, more = least_roof(house, place, end, goal, start), least_roof(house, place, end, goal, start + far)
                    self.assertEqual(more, None if roof is None else roof + far)

    def test_spares(self):
        many = 0
        for house in CLIMBERS + [random_house(seed, 5, 12) for seed in range(60)]:
            for place, start, goal, end in ((0, 0, 0, FAR), (0, FAR, 0, 0), (0, FAR, house.places - 1, FAR), (0, FAR, 0, FAR + 1)):
                roof = least_roof(house, place, start, goal, end)
                self.assertIs(roof is None, not leads(house, place, start, goal, end))
                if roof is not None:
                    many += 1
                    self.assertLess(roof - max(start, end), house.places ** 2)
                    self.assertGreaterEqual(roof, max(start, end))
                    for more in (0, 1, 7, FAR):
                        self.assertIs(leads_under(house, place, start, goal, end, roof + more), True)
                    if roof > 0:
                        self.assertIs(leads_under(house, place, start, goal, end, roof - 1), False)
        self.assertGreater(many, 60)

    def test_great_roofs(self):
        for seed in range(60):
            house, dice = random_house(seed, 4, 10), random.Random(seed)
            place, start = dice.randrange(house.places), dice.choice([0, 2, 50, FAR])
            roof = start + dice.choice([0, 1, 5, FAR])
            ahead, back = roof_ends(house, place, start, roof), roof_starts(house, place, start, roof)
            free, freed = ends(house, place, start), starts(house, place, start)
            for goal in range(house.places):
                for number in {0, 1, 2, start, max(0, start - 3), start + 4, roof // 2, roof - 1, roof, roof + 1} - {-1}:
                    self.assertIs(ahead[goal].has(number), leads_under(house, place, start, goal, number, roof))
                    self.assertIs(back[goal].has(number), leads_under(house, goal, number, place, start, roof))
                # So far below the roof it is as if there were none.
                low = max(0, roof - 20)
                self.assertEqual(ahead[goal].part(None, low) - free[goal], Line())
                if roof >= start + FAR:
                    self.assertEqual(ahead[goal].part(None, low), free[goal].part(None, low))
                    self.assertEqual(back[goal].part(None, low), freed[goal].part(None, low))

    def test_stands_above_the_roof(self):
        for house in CLIMBERS[:2]:
            for start, roof in ((1, 0), (FAR, FAR - 1), (5, 4)):
                for told in (roof_ends(house, 0, start, roof), roof_starts(house, 0, start, roof)):
                    self.assertEqual(told, {place: Line() for place in range(house.places)})
                self.assertIs(leads_under(house, 0, start, 0, start, roof), False)
                self.assertIs(leads_under(house, 0, 0, 0, start, roof), False)
        self.assertIs(leads_under(HOUSE, 0, 4, 0, 4, 4), True)
        self.assertEqual(roof_ends(HOUSE, 0, 0, 0), {0: Line.of([0]), 1: Line(), 2: Line()})

    def test_sixteen_places(self):
        house = CLIMBERS[4]
        for place, start, roof in ((0, 0, 30), (3, 17, 25), (8, 2, 60)):
            found = come_to_under(house, (place, start), roof)
            ahead = roof_ends(house, place, start, roof)
            for goal in range(16):
                self.assertEqual(ahead[goal], Line.of([number for at, number in found if at == goal]))
        for start, roof in ((FAR, FAR), (FAR, 2 * FAR), (0, FAR)):
            self.assertEqual(len(roof_ends(house, 0, start, roof)), 16)
            self.assertEqual(len(roof_starts(house, 0, start, roof)), 16)

    def test_long_periods(self):
        # Rings of 3, 5 and 7 places, some up and some down, on each of which a last place can be come to.
        deeds = [(0, 1, 1, "any"), (1, 1, 2, "any"), (2, 1, 0, "any"), (0, 0, 15, "any")]
        deeds += [(3 + k, -1, 3 + (k + 1) % 5, "any") for k in range(5)] + [(3, 0, 15, "any"), (3, 0, 0, "empty")]
        deeds += [(8 + k, -1, 8 + (k + 1) % 7, "any") for k in range(7)] + [(8, 0, 15, "any"), (14, 0, 3, "any")]
        house = House(16, deeds)
        for start, roof in ((400, 500), (FAR, FAR), (FAR, FAR + 40)):
            line = roof_ends(house, 8, start, roof)[15]
            found = come_to_under(house, (8, start), roof) if roof < FAR else None
            for number in list(range(0, 500, 7)) + [start - k for k in range(40)]:
                if found is not None:
                    self.assertIs(line.has(number), (15, number) in found)
                else:
                    self.assertIs(line.has(number), leads_under(house, 8, start, 15, number, roof))

    def test_passed_by_name(self):
        self.assertIs(leads_under(roof=5, end=4, goal=2, start=4, place=0, house=HOUSE), True)
        self.assertEqual(least_roof(end=4, goal=2, start=4, place=0, house=HOUSE), 5)
        self.assertEqual(roof_ends(roof=3, start=3, place=0, house=HOUSE)[0].least(), 3)
        self.assertEqual(roof_starts(roof=3, end=3, goal=0, house=HOUSE)[0].least(), 3)

    def test_results_are_new(self):
        roof_ends(HOUSE, 0, 3, 3).clear()
        roof_starts(HOUSE, 0, 3, 3).clear()
        self.assertEqual((len(roof_ends(HOUSE, 0, 3, 3)), len(roof_starts(HOUSE, 0, 3, 3))), (3, 3))

    def check(self, error, odds, calls):
        for odd in odds:
            for call in calls:
                with self.assertRaises(error) as caught:
                    call(odd)
                self.assertIs(caught.exception.value, odd)

    def test_errors(self):
        self.check(InvalidPlace, NO_COUNTS + [3], (
            lambda odd: leads_under(HOUSE, odd, None, None, None, None), lambda odd: leads_under(HOUSE, 0, 0, odd, None, None),
            lambda odd: least_roof(HOUSE, odd, None, None, None), lambda odd: least_roof(HOUSE, 0, 0, odd, None),
            lambda odd: roof_ends(HOUSE, odd, None, None), lambda odd: roof_starts(HOUSE, odd, None, None),
            lambda odd: roof_starts(roof=None, end=None, goal=odd, house=HOUSE)))
        self.check(InvalidMany, NO_COUNTS, (
            lambda odd: leads_under(HOUSE, 0, odd, None, None, None), lambda odd: leads_under(HOUSE, 0, 0, 0, odd, None),
            lambda odd: leads_under(HOUSE, 0, 9, 0, 0, odd), lambda odd: least_roof(HOUSE, 0, odd, None, None),
            lambda odd: least_roof(HOUSE, 0, 0, 0, odd), lambda odd: roof_ends(HOUSE, 0, odd, None), lambda odd: roof_ends(HOUSE, 0, 9, odd),
            lambda odd: roof_starts(HOUSE, 0, odd, None), lambda odd: roof_starts(HOUSE, 0, 9, odd),
            lambda odd: leads_under(roof=odd, end=0, goal=0, start=0, place=0, house=HOUSE)))

    def test_example(self):
        self.assertEqual([least_roof(HOUSE, 0, 10 ** 20, 2, 10 ** 20), least_roof(HOUSE, 0, 4, 1, 4), roof_ends(HOUSE, 0, 3, 3)[0].least()],
                         [100000000000000000001, None, 3])


if __name__ == "__main__":
    unittest.main()
