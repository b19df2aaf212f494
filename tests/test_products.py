"""Point 86: joined readers, against words read in both; turned goods."""

import itertools
import random
import unittest

from lonetill.errors import TooMany, UnlikeChanges
from lonetill.products import both, either, just_one, turned_goods
from lonetill.readers import Reader, stand_behind, takes
from tests.reading import random_changes, random_reader
from tests.test_readers import READER
from tests.test_words import FALLING


def goods_of(reader, place, number):
    """Whether the stand is good, by the empty word."""
    return place < reader.places and takes(reader, place, number, "")


class Products(unittest.TestCase):
    def test_words_in_both(self):
        taken = 0
        for seed in range(40):
            dice = random.Random(seed)
            changes, (places, others) = random_changes(dice), dice.choice([(1, 1), (2, 2), (3, 3), (2, 4), (1, 7), (3, 2)])
            one, other = random_reader(dice, places, changes), random_reader(dice, others, changes)
            joined, any_one, just = both(one, other), either(one, other), just_one(one, other)
            self.assertEqual([joined.places, any_one.places, just.places], [places * others] + [(places + 1) * (others + 1) - 1] * 2)
            words = ["".join(letters) for many in range(4) for letters in itertools.product(one.letters, repeat=many)]
            for place in range(places):
                for goal in range(others):
                    for start in (0, 1, 2):
                        for word in words:
                            left, right = takes(one, place, start, word), takes(other, goal, start, word)
                            taken += left + right
                            self.assertIs(takes(joined, place * others + goal, start, word), left and right)
                            self.assertIs(takes(any_one, place * (others + 1) + goal, start, word), left or right)
                            self.assertIs(takes(just, place * (others + 1) + goal, start, word), left != right)
        self.assertGreater(taken, 2000)

    def test_rows_and_goods_pair_by_pair(self):
        for seed in range(60):
            dice = random.Random(seed)
            changes = random_changes(dice)
            one, other = random_reader(dice, 3, changes), random_reader(dice, 3, changes)
            goals = [{(place, letter): goal for place, letter, goal in reader.rows()} for reader in (one, other)]
            right = sorted((p * 3 + q, letter, goals[0][p, letter] * 3 + goals[1][q, letter]) for p in range(3) for q in range(3)
                           for letter in changes if (p, letter) in goals[0] and (q, letter) in goals[1])
            self.assertEqual((both(one, other).rows(), both(one, other).changes()), (right, changes))
            right = []
            for p, q in itertools.product(range(4), repeat=2):
                for letter in changes:
                    goal = (goals[0].get((p, letter), 3), goals[1].get((q, letter), 3))
                    right += [(p * 4 + q, letter, goal[0] * 4 + goal[1])] if goal != (3, 3) else []
            for found in (either(one, other), just_one(one, other)):
                self.assertEqual((found.rows(), found.places, found.changes()), (sorted(right), 15, changes))
            for number in (0, 1, 9):
                for p, q in itertools.product(range(4), repeat=2):
                    if (p, q) != (3, 3):
                        left, behind = goods_of(one, p, number), goods_of(other, q, number)
                        self.assertIs(goods_of(either(one, other), p * 4 + q, number), left or behind)
                        self.assertIs(goods_of(just_one(one, other), p * 4 + q, number), left != behind)
                        if p < 3 and q < 3:
                            self.assertIs(goods_of(both(one, other), p * 3 + q, number), left and behind)

    def test_lost_pairs(self):
        one, other = Reader(1, {"a": 0, "b": 0}, [(0, "a", 0)], {0: "any"}), Reader(2, {"a": 0, "b": 0}, [(0, "b", 1), (1, "a", 0)], {1: "some"})
        found = either(one, other)
        self.assertEqual((found.places, found.rows()), (5, [(0, "a", 2), (0, "b", 4), (1, "a", 0), (2, "a", 2), (3, "b", 4), (4, "a", 3)]))
        self.assertEqual((found.goods(), just_one(one, other).goods()), ({0: "any", 1: "any", 2: "any", 4: "some"}, {0: "any", 1: "empty", 2: "any", 4: "some"}))
        self.assertEqual((both(one, other).rows(), both(one, other).goods()), ([(1, "a", 0)], {1: "some"}))

    def test_too_many_places(self):
        changes = {"a": 0}
        ring = Reader(16, changes, [(place, "a", (place + 1) % 16) for place in range(16)], {0: "any"})
        self.assertEqual((both(ring, Reader(1, changes, [(0, "a", 0)], {0: "any"})), both(Reader(4, changes, [], {}), Reader(4, changes, [], {})).places), (ring, 16))
        for places, others in ((2, 9), (4, 5), (16, 2), (17 - 1, 16)):
            with self.assertRaises(TooMany) as caught:
                both(Reader(places, changes, [], {}), Reader(others, changes, [], {}))
            self.assertEqual((caught.exception.what, caught.exception.limit), ("places", 16))
        for call in (either, just_one):
            self.assertEqual(call(Reader(2, changes, [], {}), Reader(4, changes, [], {})).places, 14)
            for places, others in ((4, 4), (3, 4), (1, 8), (16, 1)):
                with self.assertRaises(TooMany) as caught:
                    call(Reader(places, changes, [], {}), Reader(others, changes, [], {}))
                self.assertEqual((caught.exception.what, caught.exception.limit), ("places", 16))

    def test_unlike_changes(self):
        for call in (both, either, just_one):
            for changes, letter in (({"a": 1, "b": 0}, "b"), ({"b": -1}, "a"), ({"a": 1, "b": -1, "c": 1}, "c"), ({"a": 0, "b": 0}, "a")):
                with self.assertRaises(UnlikeChanges) as caught:
                    call(other=Reader(16, changes, [], {}), one=READER)
                self.assertEqual(caught.exception.letter, letter)

    def test_turned_goods(self):
        reader = Reader(4, {"a": 1}, [(0, "a", 3)], {0: "any", 1: "empty", 2: "some"})
        turned = turned_goods(reader=reader)
        self.assertEqual((turned.goods(), turned.rows(), turned.changes(), turned.places), ({1: "some", 2: "empty", 3: "any"}, reader.rows(), {"a": 1}, 4))
        self.assertEqual(turned_goods(turned), reader)
        for seed in range(30):
            dice = random.Random(seed)
            reader = random_reader(dice, 3, random_changes(dice))
            for many in range(5):
                for letters in itertools.product(reader.letters, repeat=many):
                    word = "".join(letters)
                    read = stand_behind(reader, 0, 1, word) is not None
                    self.assertEqual(takes(reader, 0, 1, word) + takes(turned_goods(reader), 0, 1, word), int(read))

    def test_example(self):
        self.assertEqual([both(READER, FALLING).goods(), just_one(READER, FALLING).places, turned_goods(READER).goods()],
                         [{1: "empty"}, 5, {0: "any", 1: "some"}])


if __name__ == "__main__":
    unittest.main()
