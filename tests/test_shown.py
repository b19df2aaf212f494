"""Point 57: showings of sayings, and their judge."""

import random
import unittest

from lonetill.errors import InvalidSaying, TooMany
from lonetill.grids import Grid, is_blocks_of
from lonetill.lines import Line
from lonetill.looks import is_line_of
from lonetill.meanings import meaning
from lonetill.sayings import letters_of
from lonetill.shown import is_shown, shown
from tests.odd import ANY
from tests.test_meanings import HOUSE, LEADS, NEVER, SAYING, TEN, random_leaf, told_saying
from tests.test_reach import three_places
from tests.walked import random_house

COUNTS = Line.counts()
WORDS = ("leads", "in", "below")
ALL_COUNTS = [(0, None, 1, [0])]


def parts_in(saying):
    """The sayings within one."""
    return [] if saying[0] in WORDS else [part for part in saying[1:] if isinstance(part, tuple)]


def changed_at(showing, way, change):
    """The showing with what is told at this way of positions of parts changed."""
    if not way:
        return (change(showing[0]),) + showing[1:]
    at = way[0] + 1
    return showing[:at] + (changed_at(showing[at], way[1:], change),) + showing[at + 1:]


def ways_in(saying):
    """The ways to all sayings within, the whole among them."""
    return [()] + [(at,) + way for at, part in enumerate(parts_in(saying)) for way in ways_in(part)]


def saying_at(saying, way):
    return saying if not way else saying_at(parts_in(saying)[way[0]], way[1:])


class Shown(unittest.TestCase):
    def check(self, house, saying, showing):
        """Looks at each told part by itself."""
        self.assertIsInstance(showing, tuple)
        value, told = meaning(house, saying), showing[0]
        letters = letters_of(saying)
        if letters == "":
            self.assertIs(told, value)
        elif letters == "mn":
            self.assertLessEqual(len(told), 200)
            self.assertIs(is_blocks_of(value, told), True)
        else:
            self.assertIs(is_line_of(value, told), True)
        self.assertEqual(len(showing), 1 + len(parts_in(saying)))
        for part, more in zip(parts_in(saying), showing[1:]):
            self.check(house, part, more)

    def test_showings(self):
        for seed in range(80):
            house, dice = random_house(seed, 2, 6), random.Random(seed)
            saying = told_saying(dice, house.places, 1000, dice.randint(1, 6))
            showing = shown(house, saying)
            self.check(house, saying, showing)
            self.assertIs(is_shown(house, saying, showing), True)

    def test_three_places_never_have_too_many(self):
        for seed in range(40):
            house, dice = three_places(seed), random.Random(seed)
            leaf, other = random_leaf(dice, 3, 1000, True), random_leaf(dice, 3, 1000, False)
            for part in (leaf, ("not", leaf), (dice.choice(["and", "or"]), leaf, other)):
                saying = (dice.choice(["some", "all"]), dice.choice("nm"), part)
                self.assertIs(is_shown(house, saying, shown(house, saying)), True)

    def test_one_thing_told_otherwise(self):
        for seed in range(60):
            house, dice = random_house(seed, 2, 6), random.Random(seed)
            saying = told_saying(dice, house.places, 6, dice.randint(1, 4))
            showing = shown(house, saying)
            for way in ways_in(saying):
                letters = letters_of(saying_at(saying, way))
                number = dice.choice([0, 3, 10 ** 29])
                change = {"": lambda told: not told, "mn": lambda told: self.otherwise(told, number)}.get(
                    letters, lambda told: self.line_otherwise(told, number))
                self.assertIs(is_shown(house, saying, changed_at(showing, way, change)), False)
                same = {"": lambda told: told, "mn": lambda told: self.the_same(told)}.get(letters, lambda told: tuple(told * 2))
                self.assertIs(is_shown(house, saying, changed_at(showing, way, same)), True)
                for wrong in (None, 1, 0, "", {}, [None], [()], [[]], int, (1,)):
                    self.assertIs(is_shown(house, saying, changed_at(showing, way, lambda told: wrong)), False)

    def otherwise(self, told, number):
        """Blocks that tell one pair more, or one less."""
        grid, pair = Grid(told), Grid([(Line.of([number]), Line.of([number + 1]), None)])
        return (grid - pair if pair.is_within(grid) else grid | pair).blocks()

    def line_otherwise(self, told, number):
        line, point = Line(told), Line.of([number])
        return (line - point if line.has(number) else line | point).stretches()

    def the_same(self, told):
        """The same blocks, cut in two, and some of them twice."""
        even = Line([(None, None, 2, [0])])
        out = []
        for first, second, far in told[::-1]:
            out += [(first & even, second, far), (first - even, second, far)]
        return (out + told)[:200] if len(out + told) <= 200 else tuple(told)

    def test_the_parts(self):
        saying = ("and", TEN, ("or", LEADS, NEVER))
        showing = shown(HOUSE, saying)
        self.assertIs(is_shown(HOUSE, saying, showing), True)
        told, one, two = showing
        for wrong in ((told, one), (told,), (), (told, two, one), (told, one, two, one), list(showing), (told, list(one), two),
                      (told, one, list(two)), (told, one, two[:2]), (told, one, (two[0], two[2], two[1])), (showing,),
                      (told, one, two + ((),)), (told, one + (one,), two), (told, (), two), (one, one, two), (told, told, two)):
            self.assertIs(is_shown(HOUSE, saying, wrong), False)

    def test_bools(self):
        saying = ("some", "n", TEN)
        self.assertEqual(shown(HOUSE, saying)[0], True)
        for told in (1, "True", None, [], False, [(0, None, 1, [0])]):
            self.assertIs(is_shown(HOUSE, saying, (told, (TEN[2].stretches(),))), False)
        self.assertIs(is_shown(HOUSE, saying, (True, (TEN[2].stretches(),))), True)
        self.assertIs(is_shown(HOUSE, saying, (True, (tuple(TEN[2].stretches()),))), True)
        self.assertIs(is_shown(HOUSE, saying, (True, ([(0, 5, 1, [0]), (3, 9, 1, [0])],))), True)
        self.assertIs(is_shown(HOUSE, ("all", "n", TEN), (0, (TEN[2].stretches(),))), False)

    def test_two_hundred_blocks(self):
        leaf = ("below", "n", "m", 0)
        block = (None, COUNTS, Line.counts())
        self.assertIs(is_shown(HOUSE, leaf, ([block] * 200,)), True)
        self.assertIs(is_shown(HOUSE, leaf, ([block] * 201,)), False)
        for unlike in range(1, 6):
            blocks = [(Line([(k, None, 1, [0])]), None, Line.counts()) for k in range(unlike)]
            self.assertIs(is_shown(HOUSE, leaf, ((blocks * 200)[:200],)), True)
            self.assertIs(is_shown(HOUSE, ("some", "m", leaf), (ALL_COUNTS, ((blocks * 200)[:200],))), True)

    def test_too_many_blocks(self):
        dice = random.Random(1)
        parts = [("or",) + tuple(("in", letter, Line.of([k for k in range(300) if dice.random() < 0.7])) for letter in "nm")
                 for _ in range(16)]
        saying = parts[0]
        while len(parts) > 1:
            parts = [("and", one, other) for one, other in zip(parts[::2], parts[1::2])]
            saying = parts[0]
        with self.assertRaises(TooMany) as caught:
            shown(HOUSE, saying)
        self.assertEqual((caught.exception.what, caught.exception.limit), ("blocks", 200))
        self.assertIs(is_shown(HOUSE, saying, ([],)), False)

    def test_values_of_any_kind(self):
        for saying in (TEN, LEADS, SAYING, ("some", "n", TEN), ("not", NEVER)):
            for value in ANY:
                self.assertIs(is_shown(HOUSE, saying, value), False)
                self.assertIs(is_shown(HOUSE, saying, (value,)), False)
                self.assertIs(is_shown(HOUSE, saying, shown(HOUSE, saying) + (value,)), False)

    def test_errors(self):
        for odd in ANY + [("leads", 2, "n", 0, "m"), list(TEN)]:
            for call in (lambda: shown(HOUSE, odd), lambda: is_shown(HOUSE, odd, None), lambda: is_shown(value=(), saying=odd, house=HOUSE),
                         lambda: shown(saying=odd, house=HOUSE)):
                with self.assertRaises(InvalidSaying) as caught:
                    call()
                self.assertIs(caught.exception.value, odd)

    def test_new_each_time(self):
        saying = ("and", TEN, LEADS)
        showing = shown(HOUSE, saying)
        told = (len(showing[0]), len(showing[1][0]), len(showing[2][0]))
        is_shown(HOUSE, saying, showing)
        self.assertEqual((len(showing[0]), len(showing[1][0]), len(showing[2][0])), told)
        for part in (showing[0], showing[1][0], showing[2][0]):
            part.clear()
        self.assertIs(is_shown(HOUSE, saying, shown(HOUSE, saying)), True)

    def test_example(self):
        self.assertIs(is_shown(HOUSE, ("not", ("below", "n", "n", 0)), ([], ([(0, None, 1, [0])],))), True)


if __name__ == "__main__":
    unittest.main()
