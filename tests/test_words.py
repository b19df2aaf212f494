"""Points 83 to 85: where two readers are not alike, parting words, alike lines."""

import random
import unittest

from lonetill.errors import InvalidMany, InvalidPlace, TooMany, UnlikeChanges
from lonetill.lines import Line
from lonetill.readers import Reader, takes
from lonetill.words import alike_lines, is_alike_lines, is_parting, parting_word, some_word, unlike, within_reader
from tests.odd import ANY, NO_COUNTS
from tests.reading import after_letter, first_word, good, random_changes, random_reader
from tests.test_readers import FAR, READER

FALLING = Reader(1, {"a": 1, "b": -1}, [(0, "b", 0)], {0: "empty"})
SIZES = [(1, 1), (2, 2), (3, 3), (2, 4), (1, 7), (4, 2), (3, 2), (7, 1)]


def two_readers(seed):
    """Two readers with the same letters, and a place of each."""
    dice = random.Random(seed)
    changes, (places, others) = random_changes(dice), dice.choice(SIZES)
    one, other = random_reader(dice, places, changes), random_reader(dice, others, changes)
    return one, dice.randrange(places), other, dice.randrange(others)


def unlike_told(one, place, other, goal, start):
    """The first word that just one of both takes, read letter by letter."""
    return first_word(one, (place, start), other, (goal, start), lambda left, right: left != right, start + 60)


class Unlike(unittest.TestCase):
    def test_small_numbers(self):
        seen = {True: 0, False: 0}
        for seed in range(150):
            one, place, other, goal = two_readers(seed)
            line, turned = unlike(one, place, other, goal), unlike(other, goal, one, place)
            within, back = within_reader(one, place, other, goal), within_reader(other, goal, one, place)
            some = some_word(one, place)
            self.assertEqual(line, turned)
            for start in range(8):
                word = unlike_told(one, place, other, goal, start)
                seen[word is None] += 1
                self.assertIs(line.has(start), word is not None)
                for found, first, second, at, to in ((within, one, other, place, goal), (back, other, one, goal, place)):
                    lacking = first_word(first, (at, start), second, (to, start), lambda left, right: left and not right, start + 60)
                    self.assertIs(found.has(start), lacking is None)
                taken = first_word(one, (place, start), one, (place, start), lambda left, right: left, start + 60)
                self.assertIs(some.has(start), taken is not None)
            self.assertEqual(within & back, Line.counts() - line)
            self.assertIs((line | within | some).is_within(Line.counts()), True)
        self.assertGreater(min(seen.values()), 150)

    def test_far_numbers(self):
        # Far up what leads to 0 comes again with all rounds of rows together, here of at most 16 pairs.
        for seed in range(120):
            one, place, other, goal = two_readers(seed)
            for line in (unlike(one, place, other, goal), within_reader(one, place, other, goal), some_word(one, place)):
                low, period, rests = line.tail()
                self.assertLess(low or 0, 900)
                for number in range(900, 925):
                    self.assertIs(line.has(number), number % period in rests)
                    self.assertIs(line.has(number + period * FAR), line.has(number))
            line = unlike(one, place, other, goal)
            for start in (30, 37):
                self.assertIs(line.has(start), unlike_told(one, place, other, goal, start) is not None)

    def test_a_reader_beside_itself(self):
        for seed in range(60):
            dice = random.Random(seed)
            reader = random_reader(dice, 3, random_changes(dice))
            for place in range(3):
                self.assertIs(unlike(reader, place, reader, place).is_empty, True)
                self.assertEqual(within_reader(reader, place, reader, place), Line.counts())
                self.assertIsNone(parting_word(reader, place, reader, place, 5))
                for goal in range(3):
                    self.assertEqual(unlike(reader, place, reader, goal), unlike(reader, goal, reader, place))

    def test_lost_pairs(self):
        rising = Reader(1, {"a": 1}, [(0, "a", 0)], {0: "some"})
        still = Reader(1, {"a": 1}, [], {0: "some"})
        self.assertEqual(unlike(rising, 0, still, 0), Line.counts())
        self.assertEqual((parting_word(rising, 0, still, 0, 0), parting_word(still, 0, rising, 0, 7)), ("a", "a"))
        self.assertEqual((within_reader(still, 0, rising, 0), within_reader(rising, 0, still, 0)), (Line.counts(), Line()))
        down = Reader(2, {"b": -1}, [(0, "b", 1), (1, "b", 0)], {1: "empty"})
        none = Reader(1, {"b": -1}, [], {})
        self.assertEqual(unlike(down, 0, none, 0), Line([(1, None, 2, [1])]))
        self.assertEqual(unlike(down, 1, none, 0), Line([(0, None, 2, [0])]))
        self.assertEqual(some_word(none, 0), Line())
        self.assertEqual(some_word(down, 0), Line([(1, None, 2, [1])]))

    def test_kinds_of_goods(self):
        goods = {"any": {0, 1, 2}, "empty": {0}, "some": {1, 2}, None: set()}
        for left, ours in goods.items():
            for right, others in goods.items():
                one = Reader(1, {"a": 0}, [], {} if left is None else {0: left})
                other = Reader(1, {"a": 0}, [(0, "a", 0)], {} if right is None else {0: right})
                told = {number for number in range(3) if unlike(one, 0, other, 0).has(number)}
                more = {number for number in range(3) if others and number in others}
                self.assertEqual(told, (ours ^ others) | more)
                told = {number for number in range(3) if within_reader(one, 0, other, 0).has(number)}
                self.assertEqual(told, {0, 1, 2} - (ours - others))

    def test_sixteen_places(self):
        # A ring of sixteen places down: never too many for two readers, nor for one reader of few places.
        ring = Reader(16, {"b": -1}, [(place, "b", (place + 1) % 16) for place in range(16)], {3: "empty"})
        self.assertEqual(some_word(ring, 0), Line([(3, None, 16, [3])]))
        for seed in range(40):
            dice = random.Random(seed)
            reader = random_reader(dice, 8, random_changes(dice), 0.95)
            for place in range(8):
                line = some_word(reader, place)
                for start in (0, 1, 5):
                    taken = first_word(reader, (place, start), reader, (place, start), lambda left, right: left, start + 80)
                    self.assertIs(line.has(start), taken is not None)


class Words(unittest.TestCase):
    def test_parting_words(self):
        lengths = []
        for seed in range(150):
            one, place, other, goal = two_readers(seed)
            for start in (0, 1, 2, 5, 12):
                word = unlike_told(one, place, other, goal, start)
                self.assertEqual(parting_word(one, place, other, goal, start), word)
                if word is not None:
                    lengths.append(len(word))
                    self.assertIs(is_parting(one, place, other, goal, start, word), True)
                    self.assertIsNone(alike_lines(one, place, other, goal, start))
        self.assertGreater(max(lengths), 10)

    def test_is_parting(self):
        for seed in range(60):
            one, place, other, goal = two_readers(seed)
            dice = random.Random(seed)
            for _ in range(20):
                word, start = "".join(dice.choice(one.letters) for _ in range(dice.randint(0, 8))), dice.randint(0, 4)
                right = takes(one, place, start, word) != takes(other, goal, start, word)
                self.assertIs(is_parting(one, place, other, goal, start, word), right)
        for value in [value for value in ANY if value != "" or not isinstance(value, str)] + ["c", "abB", ["a"], ("a", "b")]:
            self.assertIs(is_parting(READER, 0, FALLING, 0, 1, value), False)
        self.assertIs(is_parting(READER, 0, FALLING, 0, FAR, "ab"), False)

    def test_from_zero_far(self):
        # Alike until all is spent and one more is read: the word is as long as the start.
        one = Reader(2, {"a": 1, "b": -1}, [(0, "b", 0), (0, "a", 1), (1, "b", 1)], {0: "some", 1: "any"})
        other = Reader(2, {"a": 1, "b": -1}, [(0, "b", 0), (0, "a", 1), (1, "b", 1)], {0: "some", 1: "some"})
        self.assertEqual(parting_word(one, 0, other, 0, 40), "a" + "b" * 41)
        self.assertEqual(parting_word(one, 0, other, 0, 0), "ab")

    def test_start_above_forty(self):
        for start in (41, FAR):
            with self.assertRaises(TooMany) as caught:
                parting_word(READER, 0, FALLING, 0, start)
            self.assertEqual((caught.exception.what, caught.exception.limit), ("start", 40))
        big = Reader(16, {"a": 1, "b": -1}, [], {})
        with self.assertRaises(TooMany) as caught:
            parting_word(big, 0, READER, 0, 41)
        self.assertEqual((caught.exception.what, caught.exception.limit), ("start", 40))
        with self.assertRaises(UnlikeChanges):
            parting_word(Reader(16, {"a": 1}, [], {}), 0, READER, 0, 41)

    def test_alike_lines(self):
        many = 0
        for seed in range(120):
            one, place, other, goal = two_readers(seed)
            line = unlike(one, place, other, goal)
            for start in (0, 1, 7, FAR, FAR + 1):
                told = alike_lines(one, place, other, goal, start)
                self.assertIs(told is None, line.has(start))
                if told is None:
                    continue
                many += 1
                self.assertIs(is_alike_lines(one, place, other, goal, start, told), True)
                self.assertEqual(list(told), sorted(told))
                self.assertTrue(all(isinstance(pair, tuple) and len(pair) == 2 for pair in told))
                self.assertIs(told[place, goal].has(start), True)
                self.assertIs(is_alike_lines(one, place, other, goal, start, {**told, (place, goal): told[place, goal] - Line.of([start])}), False)
        self.assertGreater(many, 80)

    def is_right(self, one, other, stand, value, most):
        """Whether sets of numbers by pairs are alike lines, looked at number by number below most."""
        if any(number < 0 for numbers in value.values() for number in numbers) or stand[1] not in value.get(stand[0], ()):
            return False
        for (p, q), numbers in value.items():
            for number in numbers:
                left = (p, number) if p < one.places else None
                right = (q, number) if q < other.places else None
                if good(one, left) != good(other, right):
                    return False
                for letter in one.letters:
                    behind = [after_letter(one, left, letter), after_letter(other, right, letter)]
                    if behind != [None, None]:
                        pair = tuple(places if now is None else now[0] for now, places in zip(behind, (one.places, other.places)))
                        at = max(now[1] for now in behind if now is not None)
                        if at < most and at not in value.get(pair, ()):
                            return False
        return True

    def test_judged_by_numbers(self):
        seen = {True: 0, False: 0}
        for seed in range(500):
            dice = random.Random(seed)
            changes = {letter: dice.choice([-1, 0, -1]) for letter in "ab"[:dice.randint(1, 2)]}
            one, other = random_reader(dice, dice.randint(1, 2), changes), random_reader(dice, dice.randint(1, 2), changes)
            place, goal, start = dice.randrange(one.places), dice.randrange(other.places), dice.randint(0, 4)
            told = alike_lines(one, place, other, goal, start) or {}
            sets = {pair: {number for number in range(9) if line.has(number)} for pair, line in told.items()}
            for _ in range(dice.randint(0, 2)):
                pair = (dice.randint(0, one.places), dice.randint(0, other.places))
                if pair != (one.places, other.places):
                    sets[pair] = sets.get(pair, set()) ^ {dice.randint(-1, 5)}
            right = self.is_right(one, other, ((place, goal), start), sets, 99)
            seen[right] += 1
            value = {pair: Line.of(sorted(sets[pair])) for pair in reversed(list(sets))}
            self.assertIs(is_alike_lines(one, place, other, goal, start, value), right)
        self.assertGreater(min(seen.values()), 60)

    def test_values_of_any_kind(self):
        told = alike_lines(READER, 1, FALLING, 0, 3)
        self.assertIs(is_alike_lines(READER, 1, FALLING, 0, 3, told), True)
        self.assertEqual(set(told), {(1, 0)})
        wrong = [{**told, (2, 1): Line()}, {**told, (3, 0): Line()}, {**told, (0, 2): Line()}, {**told, (0,): Line()}, {**told, 0: Line()},
                 {(True, 0): told[1, 0]}, {(1, False): told[1, 0]}, {**told, (0, 0): None}, {**told, (0, 0): []}, {(1, 0): [(0, 3, 1, [0])]},
                 {**told, (0, 1): Line.of([-1])}, {**told, (0, 1): Line([(None, 3, 1, [0])])}, [((1, 0), told[1, 0])], {**told, "10": Line()},
                 {(1, 0): told[1, 0] | Line.of([-3])}, {**told, (-1, 0): Line()}]
        for value in ANY + wrong:
            self.assertIs(is_alike_lines(READER, 1, FALLING, 0, 3, value), False)
        self.assertIs(is_alike_lines(READER, 1, FALLING, 0, 3, {**told, (0, 1): Line()}), True)
        self.assertIs(is_alike_lines(value=told, start=3, goal=0, other=FALLING, place=1, one=READER), True)
        self.assertIs(is_alike_lines(READER, 1, FALLING, 0, 3, {(1, 0): Line.counts()}), True)
        self.assertIs(is_alike_lines(READER, 1, FALLING, 0, 3, {(1, 0): Line.counts() - Line.of([2])}), False)

    def test_spoilt_far_away(self):
        value = {(1, 0): Line.counts()}
        self.assertIs(is_alike_lines(READER, 1, FALLING, 0, FAR, value), True)
        self.assertIs(is_alike_lines(READER, 1, FALLING, 0, FAR, {(1, 0): Line.counts() - Line.of([FAR - 7])}), False)
        self.assertIs(is_alike_lines(READER, 1, FALLING, 0, FAR, {(1, 0): Line.counts() - Line.of([FAR + 1])}), False)
        self.assertIs(is_alike_lines(READER, 1, FALLING, 0, FAR, {(1, 0): Line([(0, FAR, 1, [0])])}), True)

    def test_just_one_of_both(self):
        for seed in range(100):
            one, place, other, goal = two_readers(seed)
            for start in (0, 3, 40):
                word, lines = parting_word(one, place, other, goal, start), alike_lines(one, place, other, goal, start)
                self.assertNotEqual(word is None, lines is None)

    def test_results_are_new(self):
        alike_lines(READER, 1, FALLING, 0, 3).clear()
        self.assertEqual(set(alike_lines(READER, 1, FALLING, 0, 3)), {(1, 0)})


class Errors(unittest.TestCase):
    def calls(self, one, place, other, goal, start):
        """All functions of two readers, and whether they have a start."""
        return [lambda: unlike(one, place, other, goal), lambda: within_reader(goal=goal, other=other, place=place, one=one),
                lambda: parting_word(one, place, other, goal, start), lambda: is_parting(one, place, other, goal, start, None),
                lambda: alike_lines(start=start, goal=goal, other=other, place=place, one=one),
                lambda: is_alike_lines(one, place, other, goal, start, None)]

    def check(self, error, odd, calls):
        for call in calls:
            with self.assertRaises(error) as caught:
                call()
            self.assertIs(caught.exception.value, odd)

    def test_places(self):
        unfit = Reader(16, {"a": 0}, [], {})
        for odd in NO_COUNTS + [2]:
            self.check(InvalidPlace, odd, self.calls(READER, odd, unfit, None, None) + [lambda: some_word(READER, odd)])
        for odd in NO_COUNTS + [16]:
            self.check(InvalidPlace, odd, self.calls(READER, 1, unfit, odd, None))

    def test_starts(self):
        unfit = Reader(16, {"a": 0}, [], {})
        for odd in NO_COUNTS:
            self.check(InvalidMany, odd, self.calls(READER, 1, unfit, 15, odd)[2:])

    def test_unlike_changes(self):
        for changes, letter in (({"a": 1, "b": 1}, "b"), ({"a": 0, "b": 1}, "a"), ({"a": 1}, "b"), ({"b": -1}, "a"), ({"a": 1, "b": -1, "c": 0}, "c"),
                                ({"x": 1, "y": -1}, "a")):
            for call in self.calls(READER, 0, Reader(16, changes, [], {}), 0, 0):
                with self.assertRaises(UnlikeChanges) as caught:
                    call()
                self.assertEqual(caught.exception.letter, letter)

    def test_too_many_pairs(self):
        changes = {"a": 1, "b": -1}
        for places, others in ((3, 4), (4, 3), (1, 8), (8, 1), (2, 5), (16, 16)):
            for call in self.calls(Reader(places, changes, [], {}), 0, Reader(others, changes, [], {}), 0, 0):
                with self.assertRaises(TooMany) as caught:
                    call()
                self.assertEqual((caught.exception.what, caught.exception.limit), ("places", 16))
        for places, others in ((3, 3), (1, 7), (7, 1), (2, 4), (4, 2)):
            self.assertIs(unlike(Reader(places, changes, [], {}), 0, Reader(others, changes, [], {}), 0).is_empty, True)

    def test_example(self):
        self.assertEqual([unlike(READER, 1, FALLING, 0).is_empty, parting_word(READER, 0, FALLING, 0, 0), parting_word(READER, 0, FALLING, 0, 1)],
                         [True, "", "abb"])


if __name__ == "__main__":
    unittest.main()
