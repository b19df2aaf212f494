"""Points 51, 52, 54: sayings, their letters, and how they are said otherwise."""

import random
import unittest

from lonetill.errors import InvalidSaying
from lonetill.houses import House
from lonetill.lines import Line
from lonetill.sayings import exchanged, is_saying, letters_of, negated, upright
from tests.odd import ANY, NO_COUNTS, NO_INTEGERS, NO_LINES

HOUSE = House(2, [(0, 1, 0, "any"), (0, -1, 1, "any")])
TEN = Line([(0, 9, 1, [0])])
LEADS = ("leads", 0, "n", 1, "m")
IN = ("in", "n", TEN)
BELOW = ("below", "m", "n", -3)
SAYING = ("some", "m", ("and", LEADS, ("not", ("below", "m", "n", 0))))
NO_LETTERS = ["", "x", "nm", "N", None, 0, True, b"n", ["n"], ("n",), Line()]


def random_saying(dice, depth, places=2):
    """A saying that is at most so deep."""
    letters = [dice.choice("nm") for _ in range(2)]
    word = dice.choice(["leads", "in", "below", "not leaf", "not", "and", "or", "some", "all"])
    if depth == 1 or word in ("leads", "in", "below", "not leaf"):
        leaf = dice.choice([("leads", dice.randrange(places), letters[0], dice.randrange(places), letters[1]),
                            ("in", letters[0], TEN), ("below", letters[0], letters[1], dice.randint(-3, 3))])
        return ("not", leaf) if word == "not leaf" else leaf
    if word == "not":
        return ("not", random_saying(dice, depth - 1, places))
    if word in ("and", "or"):
        return (word, random_saying(dice, depth - 1, places), random_saying(dice, depth - 1, places))
    return (word, letters[0], random_saying(dice, depth - 1, places))


def is_leaf(saying):
    return saying[0] in ("leads", "in", "below")


def depth_of(saying):
    """The depth, as point 51 tells it."""
    if is_leaf(saying) or (saying[0] == "not" and is_leaf(saying[1])):
        return 1
    return 1 + max(depth_of(part) for part in saying[1:] if isinstance(part, tuple))


def letters_in(saying, bound=()):
    """The set of the free letters, found from the whole to the leaves."""
    if is_leaf(saying):
        return {part for part in saying[1:] if isinstance(part, str)} - set(bound)
    if saying[0] in ("some", "all"):
        return letters_in(saying[2], bound + (saying[1],))
    return set().union(*[letters_in(part, bound) for part in saying[1:]])


def holds_for(saying, values, leads, most):
    """Whether a saying holds, some and all looked at for the numbers up to most."""
    word = saying[0]
    if word == "leads":
        return leads(saying[1], values[saying[2]], saying[3], values[saying[4]])
    if word == "in":
        return saying[2].has(values[saying[1]])
    if word == "below":
        return values[saying[1]] <= values[saying[2]] + saying[3]
    if word == "not":
        return not holds_for(saying[1], values, leads, most)
    if word in ("and", "or"):
        told = [holds_for(part, values, leads, most) for part in saying[1:]]
        return all(told) if word == "and" else any(told)
    told = [holds_for(saying[2], {**values, saying[1]: k}, leads, most) for k in range(most + 1)]
    return any(told) if word == "some" else all(told)


def has_nots_at_leaves_alone(saying):
    if is_leaf(saying):
        return True
    if saying[0] == "not":
        return is_leaf(saying[1])
    return all(has_nots_at_leaves_alone(part) for part in saying[1:] if isinstance(part, tuple))


class Sayings(unittest.TestCase):
    def test_right_ones(self):
        for saying in (LEADS, IN, BELOW, SAYING, ("not", SAYING), ("leads", 1, "m", 1, "m"), ("below", "n", "n", 10 ** 30),
                       ("all", "n", ("in", "m", Line())), ("or", IN, ("not", ("not", IN))), ("in", "m", Line.every())):
            self.assertIs(is_saying(HOUSE, saying), True)
        for seed in range(200):
            dice = random.Random(seed)
            saying = random_saying(dice, 7)
            self.assertIs(is_saying(HOUSE, saying), depth_of(saying) <= 6)

    def test_depth(self):
        for leaf in (LEADS, IN, BELOW, ("not", IN)):
            for word in ("some", "and", "not"):
                saying = leaf
                for depth in range(1, 9):
                    self.assertEqual(depth_of(saying), depth)
                    self.assertIs(is_saying(HOUSE, saying), depth <= 6)
                    if depth == 1 and word == "not":
                        saying = ("not", ("not", IN))
                    else:
                        saying = {"some": ("some", "n", saying), "and": ("and", IN, saying), "not": ("not", saying)}[word]

    def test_places(self):
        for odd in NO_COUNTS + [2, 15]:
            self.assertIs(is_saying(HOUSE, ("leads", odd, "n", 0, "m")), False)
            self.assertIs(is_saying(HOUSE, ("leads", 0, "n", odd, "m")), False)
        self.assertIs(is_saying(House(16, []), ("leads", 15, "n", 2, "m")), True)

    def test_letters_numbers_and_lines(self):
        for odd in NO_LETTERS:
            for value in (("leads", 0, odd, 1, "m"), ("leads", 0, "n", 1, odd), ("in", odd, TEN), ("below", odd, "n", 0),
                          ("below", "n", odd, 0), ("some", odd, IN), ("all", odd, IN)):
                self.assertIs(is_saying(HOUSE, value), False)
        for odd in NO_INTEGERS:
            self.assertIs(is_saying(HOUSE, ("below", "n", "m", odd)), False)
        for odd in NO_LINES:
            self.assertIs(is_saying(HOUSE, ("in", "n", odd)), False)

    def test_wrong_forms(self):
        for saying in (LEADS, IN, BELOW, SAYING, ("not", SAYING), ("or", IN, IN), ("all", "n", IN)):
            for wrong in (saying[:-1], saying + (IN,), saying[1:], list(saying), (saying,), saying[:1], saying + ("n",)):
                self.assertIs(is_saying(HOUSE, wrong), False, wrong)
            for word in ("", "Leads", "nor", "every", None, 0, True, ("not",), b"not", Line()):
                self.assertIs(is_saying(HOUSE, (word,) + saying[1:]), False)
        for value in ANY:
            self.assertIs(is_saying(HOUSE, value), False)
            for wrong in (("not", value), ("and", value, IN), ("and", IN, value), ("or", IN, value), ("some", "n", value),
                          ("all", "m", value), ("not", ("not", value))):
                self.assertIs(is_saying(HOUSE, wrong), False)
        self.assertIs(is_saying(HOUSE, ("and", list(IN), IN)), False)
        self.assertIs(is_saying(value=SAYING, house=HOUSE), True)

    def test_letters(self):
        self.assertEqual([letters_of(saying) for saying in (LEADS, IN, BELOW, SAYING, ("all", "n", SAYING))],
                         ["mn", "n", "mn", "n", ""])
        self.assertEqual([letters_of(saying) for saying in (("leads", 0, "m", 0, "m"), ("in", "m", TEN), ("some", "m", IN),
                                                           ("some", "n", IN), ("and", IN, ("in", "m", TEN)),
                                                           ("and", ("in", "m", TEN), ("some", "m", BELOW)))],
                         ["m", "m", "n", "", "mn", "mn"])
        for seed in range(300):
            saying = random_saying(random.Random(seed), 5)
            self.assertEqual(letters_of(saying), "".join(sorted(letters_in(saying))))

    def test_said_otherwise(self):
        self.assertEqual((upright(IN), negated(IN)), (IN, ("not", IN)))
        self.assertEqual((upright(("not", IN)), negated(("not", IN))), (("not", IN), IN))
        self.assertEqual((upright(("not", ("not", IN))), negated(("not", ("not", IN)))), (IN, ("not", IN)))
        both = ("and", IN, ("not", ("or", LEADS, BELOW)))
        self.assertEqual(upright(both), ("and", IN, ("and", ("not", LEADS), ("not", BELOW))))
        self.assertEqual(negated(both), ("or", ("not", IN), ("or", LEADS, BELOW)))
        self.assertEqual(negated(("some", "n", ("all", "m", both))),
                         ("all", "n", ("some", "m", ("or", ("not", IN), ("or", LEADS, BELOW)))))
        self.assertEqual(upright(("not", ("all", "m", IN))), ("some", "m", ("not", IN)))
        self.assertEqual(upright(("some", "m", ("not", ("not", ("or", LEADS, IN))))), ("some", "m", ("or", LEADS, IN)))

    def test_forms_of_many_sayings(self):
        for seed in range(300):
            saying = random_saying(random.Random(seed), 5)
            for form in (upright(saying), negated(saying)):
                self.assertIs(has_nots_at_leaves_alone(form), True)
                self.assertLessEqual(depth_of(form), depth_of(saying))
                self.assertEqual(letters_of(form), letters_of(saying))
                self.assertIs(is_saying(HOUSE, form), True)
                self.assertEqual(upright(form), form)
            self.assertEqual(negated(saying), upright(("not", saying)) if depth_of(saying) < 6 else negated(saying))
            self.assertEqual((depth_of(exchanged(saying)), exchanged(exchanged(saying))), (depth_of(saying), saying))
            self.assertEqual(letters_of(exchanged(saying)),
                             "".join([letter for letter in "mn" if {"n": "m", "m": "n"}[letter] in letters_of(saying)]))

    def test_forms_mean_what_they_should(self):
        def leads(place, start, goal, end):
            return (3 * place + start + 2 * goal * end) % 5 < 2
        for seed in range(80):
            saying = random_saying(random.Random(seed), 4)
            for start in range(3):
                for end in range(3):
                    told = holds_for(saying, {"n": start, "m": end}, leads, 4)
                    self.assertIs(holds_for(upright(saying), {"n": start, "m": end}, leads, 4), told)
                    self.assertIs(holds_for(negated(saying), {"n": start, "m": end}, leads, 4), not told)
                    self.assertIs(holds_for(exchanged(saying), {"m": start, "n": end}, leads, 4), told)

    def test_exchanged(self):
        self.assertEqual(exchanged(SAYING), ("some", "n", ("and", ("leads", 0, "m", 1, "n"), ("not", ("below", "n", "m", 0)))))
        self.assertEqual(exchanged(("all", "n", IN)), ("all", "m", ("in", "m", TEN)))
        self.assertEqual(exchanged(("leads", 0, "n", 1, "n")), ("leads", 0, "m", 1, "m"))
        self.assertEqual(exchanged(("or", BELOW, ("some", "m", IN))), ("or", ("below", "n", "m", -3), ("some", "n", ("in", "m", TEN))))

    def test_errors(self):
        deep = IN
        for _ in range(6):
            deep = ("some", "n", deep)
        for call in (letters_of, upright, negated, exchanged):
            for odd in ANY + [deep, ("leads", 16, "n", 0, "n"), ("in", "n", None), list(IN), ("not", list(IN)), ("below", "n", "m", True)]:
                with self.assertRaises(InvalidSaying) as caught:
                    call(odd)
                self.assertIs(caught.exception.value, odd)
                with self.assertRaises(InvalidSaying):
                    call(saying=odd)
            call(("leads", 15, "n", 15, "n"))
            call(deep[2])

    def test_example(self):
        self.assertEqual((letters_of(SAYING), negated(SAYING)[2][1], negated(SAYING)[2][2]),
                         ("n", ("not", ("leads", 0, "n", 1, "m")), ("below", "m", "n", 0)))


if __name__ == "__main__":
    unittest.main()
