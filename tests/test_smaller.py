"""Points 87, 88: classes, least readers, maps, and where one coin more lets more."""

import random
import unittest

from lonetill.errors import InvalidPlace, TooMany, UnlikeChanges
from lonetill.lines import Line
from lonetill.readers import Reader
from lonetill.smaller import alike_places, is_map, least_reader, map_to, more_from, more_line
from tests.odd import ANY, NO_COUNTS
from tests.reading import after_letter, first_word, good, random_changes, random_reader
from tests.test_readers import FAR, READER
from tests.test_words import FALLING

TWO = Reader(3, {"b": -1}, [(0, "b", 0), (1, "b", 2), (2, "b", 1)], {0: "any", 1: "any", 2: "any"})


def are_alike_near(one, place, other, goal):
    """Whether at small numbers no word parts both."""
    return all(first_word(one, (place, start), other, (goal, start), lambda left, right: left != right, start + 40) is None for start in range(7))


def lets_more(reader, place, start):
    """Whether some word is taken with one coin more, and not without."""
    row = [((place, start + 1), (place, start))]
    seen = set(row)
    for left, right in row:
        if good(reader, left) and not good(reader, right):
            return True
        for letter in reader.letters:
            both = (after_letter(reader, left, letter), after_letter(reader, right, letter))
            if both[0] is not None and both not in seen and both[0][1] <= start + 40:
                seen.add(both)
                row.append(both)
    return False


class Classes(unittest.TestCase):
    def test_small_numbers(self):
        merged = 0
        for seed in range(150):
            dice = random.Random(seed)
            reader = random_reader(dice, dice.randint(1, 4), random_changes(dice), dice.choice([0.3, 0.8]))
            places = range(reader.places)
            alike = [[goal for goal in places if are_alike_near(reader, place, reader, goal)] for place in places]
            right = [alike[place] for place in places if alike[place][0] == place]
            self.assertEqual(alike_places(reader), right)
            merged += len(right) < reader.places
            self.check_least(reader, right)
        self.assertGreater(merged, 30)

    def check_least(self, reader, classes):
        least, told = least_reader(reader)
        self.assertEqual(told, classes)
        number = {place: at for at, places in enumerate(classes) for place in places}
        firsts = [places[0] for places in classes]
        rows = [(number[place], letter, number[goal]) for place, letter, goal in reader.rows() if place in firsts]
        goods = {number[place]: word for place, word in reader.goods().items() if place in firsts}
        self.assertEqual(least, Reader(len(classes), reader.changes(), rows, goods))
        self.assertEqual(alike_places(least), [[place] for place in range(least.places)])
        if (reader.places + 1) * (least.places + 1) <= 17:
            self.assertEqual(map_to(reader, least), [number[place] for place in range(reader.places)])
            self.assertEqual(map_to(least, reader), firsts)

    def test_places_that_do_the_same(self):
        # Places 1 and 3 stand for one another, 0 and 2 lead to them; 4 differs only where the till is empty.
        reader = Reader(5, {"a": 1, "b": -1}, [(0, "a", 1), (2, "a", 3), (1, "b", 0), (3, "b", 2), (4, "b", 0)],
                        {1: "some", 3: "some", 4: "any"})
        self.assertEqual(alike_places(reader), [[0, 2], [1, 3], [4]])
        least, classes = least_reader(reader)
        self.assertEqual((least.rows(), least.goods(), classes), ([(0, "a", 1), (1, "b", 0), (2, "b", 0)], {1: "some", 2: "any"}, [[0, 2], [1, 3], [4]]))

    def test_goals_that_need_not_be_alike(self):
        # Behind a letter up there is never a 0, so what is good with "any" and with "some" is alike there.
        reader = Reader(4, {"a": 1}, [(0, "a", 1), (2, "a", 3)], {1: "any", 3: "some"})
        self.assertEqual(alike_places(reader), [[0, 2], [1], [3]])
        self.assertEqual(least_reader(reader)[0].rows(), [(0, "a", 1)])

    def test_five_places(self):
        for seed in range(15):
            dice = random.Random(seed)
            reader = random_reader(dice, 5, random_changes(dice), 0.9)
            classes = alike_places(reader)
            self.assertEqual(sorted(place for places in classes for place in places), list(range(5)))
            for places in classes:
                for place in range(5):
                    self.assertIs(are_alike_near(reader, places[0], reader, place), place in places)

    def test_six_places(self):
        for call in (alike_places, least_reader):
            with self.assertRaises(TooMany) as caught:
                call(reader=Reader(6, {"a": 0}, [], {}))
            self.assertEqual((caught.exception.what, caught.exception.limit), ("places", 5))

    def test_results_are_new(self):
        alike_places(TWO)[0].clear()
        least_reader(TWO)[1][0].clear()
        self.assertEqual((alike_places(TWO), least_reader(TWO)[1]), ([[0, 1, 2]], [[0, 1, 2]]))


class Maps(unittest.TestCase):
    def test_maps(self):
        found = 0
        for seed in range(120):
            dice = random.Random(seed)
            changes, (places, others) = random_changes(dice), dice.choice([(1, 1), (2, 2), (3, 3), (2, 4), (1, 7), (3, 2)])
            one, other = random_reader(dice, places, changes, 0.3), random_reader(dice, others, changes, 0.3)
            alike = [[goal for goal in range(others) if are_alike_near(one, place, other, goal)] for place in range(places)]
            right = None if [] in alike else [goals[0] for goals in alike]
            self.assertEqual(map_to(one, other), right)
            found += right is not None
            for _ in range(8):
                value = [dice.randrange(others) for _ in range(places)]
                self.assertIs(is_map(one, other, value), all(goal in alike[place] for place, goal in enumerate(value)))
                self.assertIs(is_map(one, other, tuple(value)), is_map(one, other, value))
        self.assertGreater(found, 12)

    def test_values_of_any_kind(self):
        self.assertIs(is_map(TWO, TWO, [0, 0, 0]), True)
        self.assertIs(is_map(value=(2, 1, 0), other=TWO, one=TWO), True)
        for value in ANY + [[0, 0], [0, 0, 0, 0], [0, 0, 3], [0, 0, -1], [0, 0, True], [0, 0, False], [0, None, 0], {0: 0, 1: 0, 2: 0}, "000", [[0], 0, 0]]:
            self.assertIs(is_map(TWO, TWO, value), False)

    def test_errors(self):
        for call in (lambda one, other: map_to(one, other), lambda one, other: is_map(value=None, other=other, one=one)):
            with self.assertRaises(UnlikeChanges) as caught:
                call(READER, Reader(16, {"a": 1, "b": 0}, [], {}))
            self.assertEqual(caught.exception.letter, "b")
            with self.assertRaises(TooMany) as caught:
                call(READER, Reader(5, READER.changes(), [], {}))
            self.assertEqual((caught.exception.what, caught.exception.limit), ("places", 16))

    def test_results_are_new(self):
        map_to(TWO, TWO).clear()
        self.assertEqual(map_to(other=TWO, one=TWO), [0, 0, 0])


class More(unittest.TestCase):
    def test_small_numbers(self):
        many = 0
        for seed in range(200):
            dice = random.Random(seed)
            reader = random_reader(dice, dice.randint(1, 6), random_changes(dice))
            place = dice.randrange(reader.places)
            line = more_line(reader, place)
            self.assertIs(line.is_within(Line.counts()), True)
            for start in list(range(8)) + [20]:
                self.assertIs(line.has(start), lets_more(reader, place, start))
                many += line.has(start)
            low = more_from(reader, place)
            self.assertEqual(low, next((start for start in range(400) if not any(line.has(start + k) for k in range(200))), None))
        self.assertGreater(many, 300)

    def test_far_numbers(self):
        # Spent two by two down to a place that is good only with some left.
        reader = Reader(3, {"b": -1}, [(0, "b", 1), (1, "b", 0)], {0: "some"})
        self.assertEqual((more_line(reader, 0), more_from(reader, 0)), (Line([(0, None, 2, [0])]), None))
        still = Reader(2, {"a": 0, "b": -1}, [(0, "a", 1), (0, "b", 0)], {1: "some"})
        self.assertEqual((more_line(still, 0), more_from(still, 0), more_from(still, 1)), (Line.counts(), None, 1))
        four = Reader(4, {"b": -1}, [(0, "b", 1), (1, "b", 2), (2, "b", 3)], {2: "any"})
        self.assertEqual((more_line(four, 0), more_from(four, 0), more_from(four, 3)), (Line.of([1]), 2, 0))
        ring = Reader(3, {"a": 1, "b": -1}, [(0, "b", 1), (1, "b", 2), (2, "b", 0)], {0: "empty"})
        self.assertEqual(more_line(ring, 0).has(FAR), lets_more(ring, 0, 3 + FAR % 3))
        self.assertEqual(more_line(ring, 0), Line([(2, None, 3, [2])]))

    def test_sixteen_places(self):
        ring = Reader(8, {"b": -1}, [(place, "b", (place + 1) % 8) for place in range(8)], {3: "some"})
        self.assertEqual((more_line(ring, 0), more_from(ring, 5)), (Line([(3, None, 8, [3])]), None))
        line = Reader(16, {"b": -1}, [(place, "b", place + 1) for place in range(15)], {15: "any"})
        self.assertEqual((more_line(line, 0), more_from(line, 0)), (Line.of([14]), 15))

    def test_errors(self):
        for odd in NO_COUNTS + [2]:
            for call in (lambda: more_line(READER, odd), lambda: more_from(READER, odd), lambda: more_line(place=odd, reader=READER)):
                with self.assertRaises(InvalidPlace) as caught:
                    call()
                self.assertIs(caught.exception.value, odd)

    def test_example(self):
        self.assertEqual([alike_places(TWO), more_from(TWO, 0), more_from(FALLING, 0)], [[[0, 1, 2]], None, None])


if __name__ == "__main__":
    unittest.main()
