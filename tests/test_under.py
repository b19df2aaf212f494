"""Points 71, 76: roofs of goings, low goings, and Lines that are closed under a roof."""

import random
import unittest

from lonetill.errors import InvalidGoing, InvalidMany, InvalidPlace
from lonetill.goings import behind, is_going
from lonetill.houses import House
from lonetill.lines import Line
from lonetill.plots import as_items
from lonetill.roofs import leads_under, least_roof, roof_ends
from lonetill.under import is_roof_closed, is_under, low_going, roof_bars, roof_of
from tests.odd import ANY, NO_COUNTS
from tests.roofed import CLIMBERS, FAR, come_to_under, dice_rings
from tests.test_ways import lists_within, longest
from tests.walked import random_house

HOUSE = House(3, [(0, 1, 1, "any"), (1, 0, 1, "any"), (1, -1, 2, "any"), (2, 1, 2, "empty")])
UPS = House(1, [(0, 1, 0, "any"), (0, -1, 0, "any"), (0, 1, 0, "empty"), (0, 0, 0, "empty")])


def told_out(going):
    """The deeds of a going one by one."""
    out = []
    for item in going:
        out += told_out(item[0]) * item[1] if isinstance(item, tuple) else [item]
    return out


def greatest_number(house, start, going):
    """The greatest number on a going that is done deed by deed."""
    number = most = start
    for position in told_out(going):
        number += house.deeds()[position][1]
        most = max(most, number)
    return most


def laps_by_dice(dice, depth):
    """A going of the one place of UPS without "empty" deeds, in laps."""
    out = []
    for _ in range(dice.randint(0, 3)):
        if depth > 1 and dice.random() < 0.5:
            out.append((laps_by_dice(dice, depth - 1), dice.choice([0, 1, 2, 3])))
        else:
            out.append(dice.choice([0, 1]))
    return out


class Roofs(unittest.TestCase):
    def test_laps_against_deeds(self):
        for seed in range(400):
            dice = random.Random(seed)
            going = laps_by_dice(dice, 4)
            start = 200 if seed % 2 else dice.randint(0, 6)
            if not is_going(UPS, 0, start, going):
                with self.assertRaises(InvalidGoing):
                    roof_of(UPS, 0, start, going)
                continue
            roof = greatest_number(UPS, start, going)
            self.assertEqual(roof_of(UPS, 0, start, going), roof)
            for other in (0, start, roof - 1, roof, roof + 1, FAR):
                if other >= 0:
                    self.assertIs(is_under(UPS, 0, start, going, other), roof <= other)

    def test_very_many_times(self):
        self.assertEqual(roof_of(UPS, 0, 3, [([0], FAR), ([1], FAR)]), FAR + 3)
        self.assertEqual(roof_of(UPS, 0, FAR, [([1], FAR), ([0], 5)]), FAR)
        self.assertEqual(roof_of(UPS, 0, 0, [([0, 0, 0, 1, 1], FAR)]), FAR + 2)
        self.assertEqual(roof_of(UPS, 0, FAR, [([0, 0, 0, 1, 1, 1, 1], FAR)]), FAR + 3)
        self.assertEqual(roof_of(UPS, 0, 7, [([([0, 1], FAR)], FAR)]), 8)
        self.assertEqual(roof_of(UPS, 0, 7, [([([([0], 10)], 10)], 10)]), 1007)
        self.assertEqual(roof_of(UPS, 0, 7, [([0], 0), ([([0], FAR)], 0)]), 7)
        self.assertEqual(roof_of(UPS, 0, FAR, []), FAR)
        self.assertEqual(roof_of(UPS, 0, FAR, ()), FAR)

    def test_empty_deeds_within(self):
        self.assertEqual(roof_of(UPS, 0, 2, [1, 1, 2, 1, 3, ([2, 0, 1, 1, 3], FAR)]), 2)
        self.assertEqual(roof_of(UPS, 0, 0, [([2, 0, 1, 1, 3], FAR), 2, ([0], 4)]), 5)
        self.assertEqual(roof_of(UPS, 0, 1, [1, 3, 2]), 1)
        for start, going in ((3, [1, 1, 2]), (0, [2, 2]), (0, [([2], 2)]), (1, [3]), (FAR, [([1], FAR - 1), 3])):
            with self.assertRaises(InvalidGoing) as caught:
                roof_of(UPS, 0, start, going)
            self.assertIs(caught.exception.value, going)

    def test_goings_that_cannot_be_done(self):
        wrong = [[1, 0], [2], [0, 1, 3], [([1], 2)], [True], [4], [-1], [[0]], [([0], -1)], [0, 0], [([([([([0], 1)], 1)], 1)], 1)]]
        for going in wrong + [value for value in ANY if value not in ([], (), [0], (0,))]:
            for call in (lambda: roof_of(HOUSE, 0, 0, going), lambda: is_under(HOUSE, 0, 0, going, None),
                         lambda: is_under(roof=-1, going=going, start=0, place=0, house=HOUSE)):
                with self.assertRaises(InvalidGoing) as caught:
                    call()
                self.assertIs(caught.exception.value, going)
        self.assertEqual(roof_of(HOUSE, 0, 0, [0]), 1)
        with self.assertRaises(InvalidGoing):
            roof_of(HOUSE, 1, 0, [0])

    def test_example(self):
        self.assertEqual([roof_of(HOUSE, 0, 5, [0, ([1], 10 ** 9), 2]), is_under(HOUSE, 0, 5, [0, 2], 5)], [6, False])


class LowGoings(unittest.TestCase):
    def check(self, house, place, start, goal, end):
        going, roof = low_going(house, place, start, goal, end), least_roof(house, place, start, goal, end)
        self.assertIs(going is None, roof is None)
        if going is None:
            return 0
        self.assertIsInstance(going, list)
        self.assertIs(is_going(house, place, start, going), True)
        self.assertEqual(behind(house, place, start, going), (goal, end))
        self.assertEqual(roof_of(house, place, start, going), roof)
        self.assertLessEqual(lists_within(going), 4)
        self.assertLessEqual(longest(going), 4000)
        return 1

    def test_by_dice(self):
        many = 0
        for seed in range(200):
            house, dice = random_house(seed, 5, 12), random.Random(seed)
            for _ in range(5):
                start, end = dice.choice([0, 1, 2, 5, 9, FAR, FAR + 2]), dice.choice([0, 1, 3, 6, FAR, FAR + 1, FAR - 3])
                many += self.check(house, dice.randrange(house.places), start, dice.randrange(house.places), end)
        self.assertGreater(many, 200)

    def test_far_climbs(self):
        many = 0
        for house in CLIMBERS:
            for start in (0, 1, 5, FAR):
                for end in (0, 1, 6, FAR, FAR + 3):
                    for goal in range(0, house.places, 3):
                        many += self.check(house, 0, start, goal, end)
        self.assertGreater(many, 100)

    def test_rings_by_dice(self):
        many = 0
        for seed in range(250):
            dice = random.Random(seed)
            house = dice_rings(dice, dice.randint(2, 8))
            for _ in range(6):
                start, end = dice.choice([0, 0, 1, 2, 9, 30]), dice.choice([0, 0, 1, 3, 12, 30])
                many += self.check(house, dice.randrange(house.places), start, dice.randrange(house.places), end)
        self.assertGreater(many, 400)

    def test_hops_at_zero(self):
        # From place to place at 0 by "empty" deeds up with a fall behind them, and such that stay.
        house = House(5, [(0, 1, 1, "empty"), (1, -1, 2, "any"), (2, 0, 3, "empty"), (3, 1, 3, "empty"), (3, 1, 4, "any"), (4, -1, 4, "any"), (1, 1, 1, "any"), (0, -1, 0, "any")])
        for start in (0, 1, 5):
            for goal in range(5):
                for end in (0, 1, 2, 6):
                    self.check(house, 0, start, goal, end)
        self.assertEqual(low_going(house, 0, 0, 2, 0), [([0, 1], 1)])
        self.assertEqual([roof_of(house, 0, 4, low_going(house, 0, 4, goal, 0)) for goal in (0, 2, 3, 4)], [4] * 4)
        self.assertEqual([least_roof(house, 0, 0, goal, 0) for goal in range(5)], [0, None, 1, 1, 1])

    def test_under_the_roof_0(self):
        house = House(3, [(0, 1, 1, "empty"), (1, -1, 2, "any"), (0, 0, 1, "empty"), (1, 0, 2, "any")])
        self.assertEqual(roof_of(house, 0, 0, low_going(house, 0, 0, 2, 0)), 0)
        self.assertEqual(least_roof(house, 0, 0, 2, 1), 1)

    def test_through_zero(self):
        house = House(4, [(0, -1, 1, "any"), (1, -1, 1, "any"), (1, 1, 2, "empty"), (2, 1, 2, "any"), (2, -1, 3, "any"), (3, 0, 0, "empty"), (0, 1, 0, "any")])
        for start in (0, 1, 4, FAR):
            for end in (0, 1, 2, 5, FAR):
                for goal in range(4):
                    self.check(house, 0, start, goal, end)

    def test_long_rows_of_deeds_are_parted(self):
        self.assertEqual((as_items([]), as_items([7]), as_items([7, 8])), ([], [7], [([7, 8], 1)]))
        items = as_items(list(range(9000)))
        self.assertEqual([deed for deeds, times in items for deed in deeds * times], list(range(9000)))
        self.assertLessEqual(longest(items), 4000)

    def test_results_are_new(self):
        told = low_going(HOUSE, 0, 5, 2, 5)
        kept = repr(told)
        told.clear()
        self.assertEqual(repr(low_going(end=5, goal=2, start=5, place=0, house=HOUSE)), kept)


class Closed(unittest.TestCase):
    def closes(self, house, stand, roof, sets):
        """Whether sets of numbers by place are closed under the roof, looked at number by number."""
        if any(not 0 <= number <= roof for numbers in sets for number in numbers) or stand[1] not in sets[stand[0]]:
            return False
        for place, numbers in enumerate(sets):
            for number in numbers:
                for begin, change, goal, when in house.deeds():
                    more = number + change
                    if begin == place and (when == "any" or number == 0) and 0 <= more <= roof and more not in sets[goal]:
                        return False
        return True

    def test_ends_are_closed(self):
        for seed in range(80):
            house, dice = random_house(seed, 4, 9), random.Random(seed)
            place, start, roof = dice.randrange(house.places), dice.choice([0, 3, FAR]), dice.choice([0, 4, 9, FAR, FAR + 4])
            paper = roof_ends(house, place, start, roof)
            self.assertIs(is_roof_closed(house, place, start, roof, paper), start <= roof)
            for goal in range(house.places):
                for end in (0, 1, 5, FAR, FAR + 1):
                    barred = start <= roof and not leads_under(house, place, start, goal, end, roof)
                    self.assertIs(roof_bars(house, place, start, goal, end, roof, paper), barred)

    def test_sets_by_dice(self):
        seen = {True: 0, False: 0}
        for seed in range(600):
            house, dice = random_house(seed, 3, 6), random.Random(seed)
            place, start, roof = dice.randrange(house.places), dice.randint(0, 3), dice.randint(2, 6)
            sets = [set() for _ in range(house.places)]
            for goal, number in come_to_under(house, (place, start), roof):
                sets[goal].add(number)
            for _ in range(dice.randint(0, 2)):
                sets[dice.randrange(house.places)] ^= {dice.randint(-1, roof + 1)}
            right = self.closes(house, (place, start), roof, sets)
            seen[right] += 1
            value = {goal: Line.of(sorted(sets[goal])) for goal in reversed(range(house.places))}
            self.assertIs(is_roof_closed(house, place, start, roof, value), right)
            for goal in range(house.places):
                for end in range(roof + 2):
                    self.assertIs(roof_bars(house, place, start, goal, end, roof, value), right and end not in sets[goal])
        self.assertGreater(min(seen.values()), 100)

    def test_spoilt_far_away(self):
        paper = roof_ends(HOUSE, 0, FAR, 2 * FAR)
        self.assertIs(is_roof_closed(HOUSE, 0, FAR, 2 * FAR, paper), True)
        self.assertIs(is_roof_closed(HOUSE, 0, FAR, 2 * FAR, {**paper, 1: paper[1] - Line.of([FAR + 1])}), False)
        self.assertIs(is_roof_closed(HOUSE, 0, FAR, 2 * FAR, {**paper, 0: paper[0] | Line.of([5])}), False)
        self.assertIs(is_roof_closed(HOUSE, 0, FAR, 2 * FAR, {**paper, 2: paper[2] | Line.of([5])}), True)
        self.assertIs(is_roof_closed(HOUSE, 0, FAR, 2 * FAR, {**paper, 2: paper[2] | Line.of([2 * FAR + 1])}), False)
        self.assertIs(is_roof_closed(HOUSE, 0, FAR, 2 * FAR, {**paper, 2: paper[2] | Line([(5, None, 1, [0])])}), False)
        self.assertIs(is_roof_closed(HOUSE, 0, FAR, 2 * FAR, {**paper, 2: paper[2] | Line([(None, 5, 1, [0])])}), False)
        self.assertIs(is_roof_closed(HOUSE, 0, FAR, 2 * FAR, {**paper, 2: paper[2] | Line.of([-1])}), False)

    def test_the_edge_of_the_roof(self):
        house = House(1, [(0, 1, 0, "any")])
        self.assertIs(is_roof_closed(house, 0, 3, 3, {0: Line.of([3])}), True)
        self.assertIs(is_roof_closed(house, 0, 3, 4, {0: Line.of([3])}), False)
        self.assertIs(is_roof_closed(house, 0, 3, 2, {0: Line.of([3])}), False)
        self.assertIs(is_roof_closed(house, 0, 3, 2, {0: Line()}), False)
        lifted = House(2, [(0, 1, 1, "empty")])
        self.assertIs(is_roof_closed(lifted, 0, 0, 0, {0: Line.of([0]), 1: Line()}), True)
        self.assertIs(is_roof_closed(lifted, 0, 0, 1, {0: Line.of([0]), 1: Line()}), False)
        self.assertIs(is_roof_closed(lifted, 0, 0, 1, {0: Line.of([0]), 1: Line.of([1])}), True)
        self.assertIs(is_roof_closed(lifted, 0, 1, 5, {0: Line.of([1]), 1: Line()}), True)

    def test_above_the_roof(self):
        for value in ({0: Line(), 1: Line(), 2: Line()}, {0: Line.of([5]), 1: Line(), 2: Line()}, ()):
            self.assertIs(is_roof_closed(HOUSE, 0, 5, 4, value), False)
            self.assertIs(roof_bars(HOUSE, 0, 5, 2, 2, 4, value), False)

    def test_values_of_any_kind(self):
        right = roof_ends(HOUSE, 0, 1, 3)
        wrong = [{place: right[place] for place in (0, 1)}, {**right, 3: Line()}, [right[0], right[1], right[2]],
                 {False: right[0], True: right[1], 2: right[2]}, {**right, 2: []}, {**right, 2: None}, {**right, 0: [(1, 1, 1, [0])]},
                 {0: right[0], 1: right[1], "2": right[2]}, {0: right[0], 1: right[1], -1: right[2]}]
        for value in ANY + wrong:
            self.assertIs(is_roof_closed(HOUSE, 0, 1, 3, value), False)
            self.assertIs(roof_bars(HOUSE, 0, 1, 2, 3, 3, value), False)
        self.assertIs(is_roof_closed(value=right, roof=3, start=1, place=0, house=HOUSE), True)
        self.assertIs(roof_bars(value=right, roof=3, end=3, goal=2, start=1, place=0, house=HOUSE), True)
        self.assertEqual(list(right), [0, 1, 2])

    def check(self, error, odds, calls):
        for odd in odds:
            for call in calls:
                with self.assertRaises(error) as caught:
                    call(odd)
                self.assertIs(caught.exception.value, odd)

    def test_errors(self):
        self.check(InvalidPlace, NO_COUNTS + [3], (
            lambda odd: roof_of(HOUSE, odd, None, None), lambda odd: is_under(HOUSE, odd, None, None, None),
            lambda odd: low_going(HOUSE, odd, None, None, None), lambda odd: low_going(HOUSE, 0, 0, odd, None),
            lambda odd: is_roof_closed(HOUSE, odd, None, None, None), lambda odd: roof_bars(HOUSE, odd, None, None, None, None, None),
            lambda odd: roof_bars(HOUSE, 0, 0, odd, None, None, None)))
        self.check(InvalidMany, NO_COUNTS, (
            lambda odd: roof_of(HOUSE, 0, odd, None), lambda odd: is_under(HOUSE, 0, odd, None, None), lambda odd: is_under(HOUSE, 0, 0, [], odd),
            lambda odd: low_going(HOUSE, 0, odd, None, None), lambda odd: low_going(HOUSE, 0, 0, 0, odd),
            lambda odd: is_roof_closed(HOUSE, 0, odd, None, None), lambda odd: is_roof_closed(HOUSE, 0, 0, odd, None),
            lambda odd: roof_bars(HOUSE, 0, odd, None, None, None, None), lambda odd: roof_bars(HOUSE, 0, 0, 0, odd, None, None),
            lambda odd: roof_bars(HOUSE, 0, 0, 0, 0, odd, None)))

    def test_nothing_is_changed(self):
        value, going = {0: Line.of([0]), 1: Line.of([1]), 2: Line.of([0, 1])}, [0, ([1], 2)]
        told = {place: line.stretches() for place, line in value.items()}
        is_roof_closed(HOUSE, 0, 0, 1, value)
        roof_bars(HOUSE, 0, 0, 0, 1, 1, value)
        is_under(HOUSE, 0, 0, going, 4)
        self.assertEqual(({place: line.stretches() for place, line in value.items()}, going), (told, [0, ([1], 2)]))


if __name__ == "__main__":
    unittest.main()
