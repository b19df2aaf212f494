"""Points 32 and 33: ends, starts, and rectangles, against goings walked stand by stand."""

import random
import unittest

from lonetill.ends import come_to, ends, is_rectangles, rectangles, starts
from lonetill.errors import InvalidMany, InvalidPlace
from lonetill.houses import House
from lonetill.lines import Line
from tests.odd import ANY, NO_COUNTS
from tests.walked import come_to_by_empty, come_to_from, numbers_of, random_house, spare

FAR = 10 ** 25
HOUSE = House(2, [(0, -1, 0, "any"), (0, 0, 1, "empty"), (1, 1, 1, "any")])
COUNTS = Line.counts()


def ring_house(ups, downs, empty):
    """Rings of deeds up and down on the same places, and an "empty" deed between the first ones."""
    deeds = [(k, 1, (k + 1) % ups, "any") for k in range(ups)]
    deeds += [(4 - k, -1, 4 - (k + 1) % downs, "any") for k in range(downs)]
    return House(5, deeds + [(4, empty, 0, "empty")])


class Ends(unittest.TestCase):
    def test_against_walking(self):
        for seed in range(200):
            house = random_house(seed, 4, 9)
            seen = {(place, start): come_to_from(house, (place, start), 7 + spare(house))
                    for place in range(house.places) for start in range(8)}
            for place in range(house.places):
                for number in range(8):
                    to, back = ends(house, place, number), starts(house, place, number)
                    self.assertEqual((list(to), list(back)), ([*range(house.places)], [*range(house.places)]))
                    for other in range(house.places):
                        self.assertEqual(numbers_of(to[other], -9, 7),
                                         {k for k in range(8) if (other, k) in seen[place, number]})
                        self.assertEqual(numbers_of(back[other], -9, 7),
                                         {k for k in range(8) if (place, number) in seen[other, k]})
                    self.check_come_to(house, place, number, seen)

    def check_come_to(self, house, place, number, seen):
        for goal in range(house.places):
            known = any(other == goal for other, _ in seen[place, number])
            self.assertIs(come_to(house, place, goal).has(number), known)
            self.assertIs(come_to(house, place, goal).is_within(COUNTS), True)

    def test_far_numbers(self):
        self.assertEqual(ends(HOUSE, 0, FAR), {0: Line([(0, FAR, 1, [0])]), 1: COUNTS})
        self.assertEqual(ends(HOUSE, 1, FAR), {0: Line(), 1: Line([(FAR, None, 1, [0])])})
        self.assertEqual(starts(HOUSE, 1, FAR), {0: COUNTS, 1: Line([(0, FAR, 1, [0])])})
        self.assertEqual(starts(HOUSE, 0, FAR), {0: Line([(FAR, None, 1, [0])]), 1: Line()})

    def test_three_zones(self):
        house = House(3, [(0, 1, 1, "any"), (1, 1, 0, "any"), (0, -1, 2, "any"), (2, -1, 2, "any"), (2, 0, 0, "empty")])
        odd = 10 ** 25 + 1
        self.assertEqual(ends(house, 0, odd)[0], Line([(0, None, 2, [0]), (odd, None, 2, [1])]))
        self.assertEqual(starts(house, 0, odd)[0], Line([(1, odd, 2, [1])]))
        self.assertEqual(starts(house, 0, odd + 1)[0], COUNTS)

    def test_houses_of_five_places_never_have_too_many(self):
        for ups in range(1, 6):
            for downs in range(1, 6):
                for empty in (0, 1):
                    house = ring_house(ups, downs, empty)
                    seen = come_to_from(house, (0, 61), 120 + spare(house))
                    found = ends(house, 0, 61)
                    for goal in range(5):
                        self.assertEqual(numbers_of(found[goal], 0, 120),
                                         {k for k in range(121) if (goal, k) in seen})
                    for place in range(5):
                        far, back = ends(house, place, FAR), starts(house, 0, FAR)
                        for goal in range(5):
                            self.assertIs(is_rectangles(house, place, goal, rectangles(house, place, goal)), True)
                        self.assertEqual(far[0].has(FAR), back[place].has(FAR))

    def test_come_to_far(self):
        deeds = [(0, -1, 1, "any"), (1, -1, 2, "any"), (2, -1, 3, "any"), (2, 1, 0, "empty")]
        house = House(4, deeds)
        self.assertEqual([come_to(house, 0, goal) for goal in range(4)],
                         [COUNTS, Line([(1, None, 1, [0])]), Line([(2, None, 1, [0])]), Line([(3, None, 1, [0])])])
        self.assertEqual(come_to(house, 2, 1), COUNTS.part(0, 0))
        self.assertEqual(come_to(house=house, place=1, goal=0), Line.of([1]))
        self.assertTrue(come_to(house, 3, 0).is_empty)

    def test_what_is_needed_behind_a_deed_up(self):
        deeds = [(0, 1, 1, "empty"), (1, -1, 2, "any"), (2, -1, 3, "any"), (3, 1, 4, "any"), (4, 1, 5, "any")]
        for house, known in ((House(6, deeds), False), (House(6, deeds[:1] + [(1, 0, 2, "any")] + deeds[2:]), True)):
            for goal in (3, 4, 5):
                self.assertIs(come_to(house, 0, goal).has(0), known)
                self.assertIs(ends(house, 0, 0)[goal].is_empty, not known)
                self.assertIs(starts(house, goal, goal - 3)[0].has(0), known)
                self.assertEqual(len(rectangles(house, 0, goal)), 1 if known else 0)

    def test_new_dicts(self):
        for act in (lambda: ends(HOUSE, 0, 2), lambda: starts(HOUSE, 0, 2)):
            found = act()
            found.clear()
            self.assertEqual(list(act()), [0, 1])

    def test_errors(self):
        for value in NO_COUNTS + [2, FAR]:
            for act in (lambda: ends(HOUSE, value, None), lambda: starts(HOUSE, value, None),
                        lambda: come_to(HOUSE, value, None), lambda: come_to(HOUSE, 0, value),
                        lambda: rectangles(HOUSE, value, None), lambda: rectangles(house=HOUSE, place=1, goal=value),
                        lambda: is_rectangles(HOUSE, value, None, None), lambda: is_rectangles(HOUSE, 0, value, None)):
                with self.assertRaises(InvalidPlace) as caught:
                    act()
                self.assertIs(caught.exception.value, value)
        for value in NO_COUNTS:
            for act in (lambda: ends(HOUSE, 0, start=value), lambda: starts(house=HOUSE, goal=0, end=value)):
                with self.assertRaises(InvalidMany) as caught:
                    act()
                self.assertIs(caught.exception.value, value)

    def test_examples(self):
        self.assertEqual([ends(HOUSE, 0, 2)[1] == COUNTS, ends(HOUSE, 0, 2)[0] == Line.of([0, 1, 2]),
                          starts(HOUSE, 1, 3)[1] == Line.of([0, 1, 2, 3])], [True, True, True])
        self.assertEqual([come_to(HOUSE, 1, 0).is_empty, is_rectangles(HOUSE, 0, 1, [(COUNTS, COUNTS)]),
                          is_rectangles(HOUSE, 0, 0, [])], [True, True, True])


class Rectangles(unittest.TestCase):
    def test_against_walking(self):
        some = 0
        for seed in range(250):
            house = random_house(seed, 4, 9)
            seen = {(place, start): come_to_by_empty(house, (place, start), 6 + spare(house))
                    for place in range(house.places) for start in range(7)}
            for place in range(house.places):
                for goal in range(house.places):
                    boxes = rectangles(house, place, goal)
                    some += len(boxes) > 1
                    self.check_boxes(house, place, goal, boxes, seen)

    def check_boxes(self, house, place, goal, boxes, seen):
        self.assertIsInstance(boxes, list)
        self.assertLessEqual(len(boxes), 16)
        for one, two in boxes:
            self.assertFalse(one.is_empty or two.is_empty)
            self.assertTrue(one.is_within(COUNTS) and two.is_within(COUNTS))
        for start in range(7):
            for end in range(7):
                inside = any(one.has(start) and two.has(end) for one, two in boxes)
                self.assertIs(inside, (goal, end) in seen[place, start], (house, place, goal, start, end))
        self.assertIs(is_rectangles(house, place, goal, boxes), True)
        self.assertIs(is_rectangles(house, place, goal, tuple(boxes[::-1])), True)

    def test_told_otherwise(self):
        house = HOUSE
        far = Line([(FAR, None, 1, [0])])
        near = COUNTS - far
        for value in ([(near, COUNTS), (far, COUNTS)], [(COUNTS, near), (COUNTS, far)], [(COUNTS, COUNTS)] * 16,
                      [(near, near), (near, far), (far, COUNTS)], ((COUNTS, far), (COUNTS, near), (far, far))):
            self.assertIs(is_rectangles(house, 0, 1, value), True)
        one = Line.of([FAR])
        for value in ([], [(near, COUNTS)], [(near, COUNTS), (far, COUNTS - one)], [(near, near), (far, far)],
                      [(COUNTS - one, COUNTS), (COUNTS, COUNTS - one)], [(COUNTS, COUNTS)] * 17):
            self.assertIs(is_rectangles(house, 0, 1, value), False)
        self.assertIs(is_rectangles(house, 0, 1, [(COUNTS - one, COUNTS), (COUNTS, COUNTS - one), (one, one)]), True)

    def test_more_than_leads_is_wrong(self):
        house = HOUSE.with_deed((1, -1, 0, "any"))
        for place in range(2):
            for goal in range(2):
                boxes = rectangles(house, place, goal)
                self.assertIs(is_rectangles(house, place, goal, boxes), True)
        self.assertIs(is_rectangles(HOUSE, 1, 1, [(Line.of([0]), Line.of([0]))]), False)
        self.assertIs(is_rectangles(HOUSE, 1, 1, []), True)

    def test_short_lines_of_other_periods(self):
        dice = random.Random(1)
        boxes = []
        for period in (7, 11, 13, 59):
            rests = sorted(dice.sample(range(period), period // 2))
            line = Line([(0, None, period, rests)])
            boxes += [(line, COUNTS), (COUNTS - line, COUNTS)]
        self.assertIs(is_rectangles(HOUSE, 0, 1, boxes), True)
        self.assertIs(is_rectangles(HOUSE, 0, 1, boxes[::2]), False)
        self.assertIs(is_rectangles(HOUSE, 0, 0, boxes), False)

    def test_values_of_any_kind(self):
        line = Line.of([0])
        wrong = [[(COUNTS, COUNTS, COUNTS)], [[COUNTS, COUNTS]], [(COUNTS, None)], [(COUNTS, Line())],
                 [(Line(), COUNTS)],
                 [(COUNTS, COUNTS), (line, Line())], [(COUNTS, COUNTS | Line.of([-1]))], [(Line.every(), COUNTS)],
                 [(COUNTS | Line.of([-1]), COUNTS)], [(COUNTS, COUNTS), (Line.of([-3]), COUNTS)],
                 [(COUNTS, [(0, None, 1, [0])])], (COUNTS, COUNTS), {0: (COUNTS, COUNTS)}, [COUNTS, COUNTS],
                 [(COUNTS, COUNTS), None], [(COUNTS, COUNTS), True]]
        for value in ANY + wrong:
            found = is_rectangles(HOUSE, 0, 1, value)
            self.assertIs(found, False)
            self.assertIsInstance(is_rectangles(house=HOUSE, place=0, goal=0, value=value), bool)

    def test_new_lists(self):
        rectangles(HOUSE, 0, 1).append(None)
        self.assertEqual(len(rectangles(HOUSE, 0, 1)), 1)


if __name__ == "__main__":
    unittest.main()
