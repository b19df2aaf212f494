"""Points 81, 82: readers, and words that they take, read letter by letter."""

import itertools
import random
import unittest

from lonetill.errors import InvalidChanges, InvalidGoods, InvalidLetter, InvalidMany, InvalidPlace, InvalidPlaces
from lonetill.errors import InvalidRows, InvalidWord, TooMany
from lonetill.houses import House
from lonetill.lines import Line
from lonetill.readers import Reader, as_house, many_words, stand_behind, starts_of, takes
from tests.odd import ANY, NO_COUNTS, Strange
from tests.reading import after_word, good, random_changes, random_reader

FAR = 10 ** 29
READER = Reader(2, {"a": 1, "b": -1}, [(0, "a", 0), (0, "b", 1), (1, "b", 1)], {1: "empty"})
CHANGES = {"a": 1, "b": -1}


class Readers(unittest.TestCase):
    def test_parts(self):
        reader = Reader(3, {"x": 0, "c": -1, "m": 1}, [(2, "x", 0), (0, "m", 1), (0, "c", 2)], {2: "some", 0: "any"})
        self.assertEqual((reader.places, reader.letters), (3, "cmx"))
        self.assertEqual(list(reader.changes().items()), [("c", -1), ("m", 1), ("x", 0)])
        self.assertEqual(list(reader.goods().items()), [(0, "any"), (2, "some")])
        self.assertEqual(reader.rows(), [(0, "c", 2), (0, "m", 1), (2, "x", 0)])
        self.assertEqual([reader.goal_of(0, "c"), reader.goal_of(0, "x"), reader.goal_of(letter="x", place=2)], [2, None, 0])
        self.assertEqual((Reader(1, {"z": 0}, (), {}).rows(), Reader(16, {"z": 0}, [(15, "z", 15)], {15: "empty"}).goods()), ([], {15: "empty"}))

    def test_equal(self):
        again = Reader(goods={1: "empty"}, rows=((1, "b", 1), (0, "b", 1), (0, "a", 0)), changes={"b": -1, "a": 1}, places=2)
        self.assertTrue(READER == again and not READER != again)
        for other in (Reader(3, CHANGES, READER.rows(), {1: "empty"}), Reader(2, {"a": 1, "b": 0}, READER.rows(), {1: "empty"}),
                      Reader(2, {**CHANGES, "c": 0}, READER.rows(), {1: "empty"}), Reader(2, CHANGES, READER.rows()[1:], {1: "empty"}),
                      Reader(2, CHANGES, [(0, "a", 1), (0, "b", 1), (1, "b", 1)], {1: "empty"}), Reader(2, CHANGES, READER.rows(), {}),
                      Reader(2, CHANGES, READER.rows(), {1: "any"}), Reader(2, CHANGES, READER.rows(), {0: "empty"}), House(2, []), None, 2, "reader"):
            self.assertTrue(READER != other and not READER == other)

    def test_what_was_passed_may_be_changed(self):
        changes, rows, goods = dict(CHANGES), [(0, "a", 0), (0, "b", 1), (1, "b", 1)], {1: "empty"}
        reader = Reader(2, changes, rows, goods)
        changes["a"], goods[0] = 0, "any"
        rows.clear()
        self.assertEqual(reader, READER)
        reader.changes().clear()
        reader.rows().clear()
        reader.goods().clear()
        self.assertEqual(reader, READER)

    def test_wrong_places(self):
        for odd in [value for value in ANY if value is True or value not in (1, 7)] + [17, -2, FAR]:
            for call in (lambda: Reader(odd, None, None, None), lambda: Reader(goods=None, rows=None, changes=None, places=odd)):
                with self.assertRaises(InvalidPlaces) as caught:
                    call()
                self.assertIs(caught.exception.value, odd)

    def test_wrong_changes(self):
        wrong = [{"a": 2}, {"a": -2}, {"a": True}, {"a": "1"}, {"a": None}, {"ab": 1}, {"": 1}, {"A": 1}, {"1": 1}, {" ": 1}, {1: 1}, {("a",): 1},
                 {"a": 1, "b": 1, "c": 1, "d": 1}, [("a", 1)], {"a": 0, "B": 0}, {None: 1}, {b"a": 1}]
        for odd in [value for value in ANY if not isinstance(value, dict)] + [{}, {0: []}] + wrong:
            for call in (lambda: Reader(1, odd, None, None), lambda: Reader(goods={}, rows=[], changes=odd, places=1)):
                with self.assertRaises(InvalidChanges) as caught:
                    call()
                self.assertIs(caught.exception.value, odd)

    def test_wrong_rows(self):
        for odd in [None, True, 0, "rows", {}, {0: 1}, Strange(), set(), Line()]:
            with self.assertRaises(InvalidRows) as caught:
                Reader(2, CHANGES, odd, None)
            self.assertIsNone(caught.exception.position)
        for odd in ANY + [(0, "a"), (0, "a", 0, 0), [0, "a", 0], (2, "a", 0), (0, "a", 2), (-1, "a", 0), (0, "c", 0), (0, "", 0), (0, "ab", 0),
                          (True, "a", 0), (0, "a", True), (0, ["a"], 0), (0, 1, 0), ("0", "a", 0), (0, "a", None), (0, "a", 1), (1, "b", 0)]:
            for rows in ([(0, "a", 1), (1, "b", 0), odd], ((0, "a", 1), (1, "b", 0), odd, None)):
                with self.assertRaises(InvalidRows) as caught:
                    Reader(2, CHANGES, rows, None)
                self.assertEqual(caught.exception.position, 2)

    def test_wrong_goods(self):
        wrong = [{2: "any"}, {-1: "any"}, {True: "any"}, {False: "any"}, {"0": "any"}, {0: "all"}, {0: ""}, {0: None}, {0: True}, {0: ["any"]},
                 {0: "any", 1: "Some"}, [(0, "any")], {None: "any"}, {(0,): "any"}]
        for odd in [value for value in ANY if value != {}] + wrong:
            for call in (lambda: Reader(2, CHANGES, [], odd), lambda: Reader(goods=odd, rows=[], changes=CHANGES, places=2)):
                with self.assertRaises(InvalidGoods) as caught:
                    call()
                self.assertIs(caught.exception.value, odd)

    def test_goal_of_errors(self):
        for odd in NO_COUNTS + [2]:
            with self.assertRaises(InvalidPlace) as caught:
                READER.goal_of(odd, None)
            self.assertIs(caught.exception.value, odd)
        for odd in ANY + ["c", "A", "", "ab", 0]:
            with self.assertRaises(InvalidLetter) as caught:
                READER.goal_of(0, odd)
            self.assertIs(caught.exception.value, odd)

    def test_as_house(self):
        self.assertEqual(as_house(READER), House(2, [(0, -1, 1, "any"), (0, 1, 0, "any"), (1, -1, 1, "any")]))
        twice = Reader(2, {"a": 0, "b": 0, "c": 1}, [(1, "c", 0), (0, "a", 1), (0, "b", 1), (0, "c", 1)], {0: "any"})
        self.assertEqual(as_house(reader=twice).deeds(), [(0, 0, 1, "any"), (0, 1, 1, "any"), (1, 1, 0, "any")])
        self.assertEqual(as_house(Reader(16, {"a": 0}, [], {})), House(16, []))
        full = Reader(16, {"a": 0, "b": 1, "c": -1}, [(place, letter, 15 - place) for place in range(16) for letter in "abc"], {})
        self.assertEqual(len(as_house(full)), 48)

    def test_words_letter_by_letter(self):
        taken = 0
        for seed in range(60):
            dice = random.Random(seed)
            reader = random_reader(dice, dice.randint(1, 4), random_changes(dice))
            place = dice.randrange(reader.places)
            for many in range(5):
                words = ["".join(letters) for letters in itertools.product(reader.letters, repeat=many)]
                for start in (0, 1, 3):
                    found = [after_word(reader, (place, start), word) for word in words]
                    self.assertEqual([stand_behind(reader, place, start, word) for word in words], found)
                    right = [good(reader, stand) for stand in found]
                    self.assertEqual([takes(reader, place, start, word) for word in words], right)
                    self.assertEqual(many_words(reader, place, start, many), sum(right))
                    self.assertEqual([starts_of(reader, place, word).has(start) for word in words], right)
                    taken += sum(right)
        self.assertGreater(taken, 800)

    def test_starts(self):
        reader = Reader(3, {"u": 1, "d": -1, "s": 0}, [(0, "u", 0), (0, "d", 0), (0, "s", 1), (1, "u", 2), (1, "d", 1)], {0: "any", 1: "empty", 2: "some"})
        for word, line in (("", Line.counts()), ("d" * 5, Line([(5, None, 1, [0])])), ("uudds", Line.of([0])), ("us", Line()), ("dds", Line.of([2])),
                           ("ddds" + "d", Line.of([4])), ("ddus", Line()), ("dduds", Line.of([2])), ("ddsu", Line([(2, None, 1, [0])])),
                           ("su", Line.counts()), ("ss", Line()), ("sus", Line()), ("uuus" + "d" * 3, Line.of([0]))):
            self.assertEqual(starts_of(reader, 0, word), line, word)
        self.assertEqual(starts_of(reader, 0, "d" * 4000), Line([(4000, None, 1, [0])]))
        self.assertEqual(starts_of(word="", place=1, reader=reader), Line.of([0]))
        self.assertEqual(starts_of(reader, 2, ""), Line([(1, None, 1, [0])]))

    def test_great_numbers(self):
        self.assertEqual(stand_behind(READER, 0, FAR, "aab" + "b" * 100), (1, FAR - 99))
        self.assertIs(takes(READER, 0, FAR, "b"), False)
        self.assertEqual(many_words(READER, 0, FAR, 40), 0)

    def test_many_words(self):
        free = Reader(1, {"a": 0, "b": 0, "c": 0}, [(0, letter, 0) for letter in "abc"], {0: "any"})
        self.assertEqual([many_words(free, 0, 0, many) for many in (0, 1, 40)], [1, 3, 3 ** 40])
        steps = Reader(1, {"a": 1, "b": -1}, [(0, "a", 0), (0, "b", 0)], {0: "empty"})
        self.assertEqual([many_words(steps, 0, 0, 2 * many) for many in range(6)], [1, 1, 2, 5, 14, 42])
        with self.assertRaises(TooMany) as caught:
            many_words(free, 0, 0, 41)
        self.assertEqual((caught.exception.what, caught.exception.limit), ("many", 40))
        with self.assertRaises(TooMany):
            many_words(many=FAR, start=0, place=0, reader=free)

    def test_errors(self):
        for odd in NO_COUNTS + [2]:
            for call in (lambda: stand_behind(READER, odd, None, None), lambda: takes(READER, odd, None, None), lambda: starts_of(READER, odd, None),
                         lambda: many_words(READER, odd, None, None), lambda: takes(word=None, start=None, place=odd, reader=READER)):
                with self.assertRaises(InvalidPlace) as caught:
                    call()
                self.assertIs(caught.exception.value, odd)
        for odd in NO_COUNTS:
            for call in (lambda: stand_behind(READER, 0, odd, None), lambda: takes(READER, 0, odd, None), lambda: many_words(READER, 0, odd, None),
                         lambda: many_words(READER, 0, 0, odd)):
                with self.assertRaises(InvalidMany) as caught:
                    call()
                self.assertIs(caught.exception.value, odd)
        for odd in [value for value in ANY if value != "" or not isinstance(value, str)] + ["c", "aac", "A", " ", "a b", ("a",), ["a", "b"]]:
            for call in (lambda: stand_behind(READER, 0, 0, odd), lambda: takes(READER, 0, 0, odd), lambda: starts_of(READER, 0, odd),
                         lambda: starts_of(word=odd, place=0, reader=READER)):
                with self.assertRaises(InvalidWord) as caught:
                    call()
                self.assertIs(caught.exception.value, odd)

    def test_example(self):
        self.assertEqual([stand_behind(READER, 0, 0, "aab"), takes(READER, 0, 0, "aabb"), starts_of(READER, 0, "abb").has(1), many_words(READER, 0, 2, 4)],
                         [(1, 1), True, True, 1])


if __name__ == "__main__":
    unittest.main()
