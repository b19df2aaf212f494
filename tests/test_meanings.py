"""Points 53, 55, 56: what sayings mean, against sayings reckoned number by number."""

import random
import unittest

from lonetill.empties import leads
from lonetill.errors import InvalidSaying, InvalidValues, MissingLetter, OpenSaying
from lonetill.grids import Grid, reach
from lonetill.houses import House
from lonetill.lines import Line
from lonetill.meanings import are_alike, first_for, follows, holds, meaning, witness
from lonetill.sayings import exchanged, letters_of, negated, upright
from tests.odd import ANY, NO_COUNTS
from tests.test_reach import ROUND, three_places
from tests.test_sayings import depth_of, holds_for
from tests.walked import come_to_from, random_house

FAR = 10 ** 28
COUNTS = Line.counts()
HOUSE = House(2, [(0, 1, 0, "any"), (0, -1, 1, "any")])
SAYING = ("some", "m", ("and", ("leads", 0, "n", 1, "m"), ("not", ("below", "m", "n", 0))))
LEADS = ("leads", 0, "n", 1, "m")
TEN = ("in", "n", Line([(0, 9, 1, [0])]))
NEVER = ("below", "n", "n", -1)
ALWAYS = ("below", "m", "m", 0)


def random_leaf(dice, places, wide, is_leads):
    """A leaf with numbers up to wide."""
    one, other = dice.choice("nm"), dice.choice("nm")
    if is_leads:
        return ("leads", dice.randrange(places), one, dice.randrange(places), other)
    if dice.random() < 0.5:
        return ("below", one, other, dice.randint(-wide, wide))
    ends = [dice.choice([None, dice.randint(-wide, wide)]) for _ in range(2)]
    ends = sorted(ends) if None not in ends else ends
    period = dice.randint(1, 3)
    return ("in", one, Line([(ends[0], ends[1], period, sorted(dice.sample(range(period), dice.randint(1, period))))]))


def joined_leaves(dice, leaves):
    """A saying of these leaves."""
    if len(leaves) == 1:
        saying = leaves[0]
    else:
        at = dice.randint(1, len(leaves) - 1)
        saying = (dice.choice(["and", "or"]), joined_leaves(dice, leaves[:at]), joined_leaves(dice, leaves[at:]))
    if dice.random() < 0.3:
        saying = ("not", saying)
    if dice.random() < 0.2:
        saying = (dice.choice(["some", "all"]), dice.choice("nm"), saying)
    return saying


def told_saying(dice, places, wide, many, most_depth=6):
    """A saying with so many leaves, one "leads" among them."""
    while True:
        leaves = [random_leaf(dice, places, wide, at == 0) for at in range(many)]
        dice.shuffle(leaves)
        saying = joined_leaves(dice, leaves)
        if depth_of(saying) <= most_depth:
            return saying


def walked_leads(house):
    """A function that tells what leads, walked stand by stand."""
    seen = {}

    def told(place, start, goal, end):
        if (place, start) not in seen:
            seen[place, start] = come_to_from(house, (place, start), 60)
        return (goal, end) in seen[place, start]
    return told


class Meanings(unittest.TestCase):
    def check_against_numbers(self, house, saying, most, told):
        letters, value = letters_of(saying), meaning(house, saying)
        self.assertIs(value.__class__, {"": bool, "mn": Grid}.get(letters, Line))
        for start in range(0, 9, 1 if "n" in letters else 4):
            for end in range(0, 9, 1 if "m" in letters else 4):
                right = holds_for(saying, {"n": start, "m": end}, told, most)
                known = {"": lambda: value, "n": lambda: value.has(start), "m": lambda: value.has(end),
                         "mn": lambda: value.has(start, end)}[letters]()
                self.assertIs(known, right, (saying, start, end))
        return value

    def test_leaves(self):
        for seed in range(60):
            house, dice = random_house(seed, 3, 7), random.Random(seed)
            for is_leads in (True, False, False):
                leaf = random_leaf(dice, house.places, 6, is_leads)
                told = walked_leads(house)
                self.check_against_numbers(house, leaf, 0, told)
                self.check_against_numbers(house, ("not", leaf), 0, told)

    def test_sayings_number_by_number(self):
        for seed in range(120):
            house, dice = random_house(seed, 2, 6), random.Random(seed)
            saying = told_saying(dice, house.places, 4, dice.randint(1, 4))
            self.check_against_numbers(house, saying, 30, walked_leads(house))

    def test_each_kind(self):
        grid = reach(ROUND, 0, 0)
        leaf = ("leads", 0, "n", 0, "m")
        self.assertEqual(meaning(ROUND, leaf), grid)
        self.assertEqual(meaning(ROUND, ("not", leaf)), grid.other())
        self.assertEqual(meaning(ROUND, ("leads", 0, "m", 0, "n")), grid.turned())
        self.assertEqual(meaning(ROUND, ("some", "m", leaf)), grid.some())
        self.assertEqual(meaning(ROUND, ("all", "m", leaf)), grid.each())
        self.assertEqual(meaning(ROUND, ("some", "n", leaf)), grid.turned().some())
        self.assertEqual(meaning(ROUND, ("all", "n", leaf)), grid.turned().each())
        self.assertEqual(meaning(ROUND, ("and", leaf, TEN)), grid & Grid([(TEN[2], None, None)]))
        self.assertEqual(meaning(ROUND, ("or", leaf, ("in", "m", TEN[2]))), grid | Grid([(None, TEN[2], None)]))
        self.assertEqual(meaning(ROUND, ("in", "m", Line.every())), COUNTS)
        self.assertEqual(meaning(ROUND, ("not", ("in", "m", TEN[2]))), COUNTS - TEN[2])
        self.assertEqual(meaning(ROUND, ("below", "n", "m", 2)), Grid([(None, None, Line([(-2, None, 1, [0])]))]))
        self.assertEqual(meaning(ROUND, ("below", "m", "n", 2)), Grid([(None, None, Line([(None, 2, 1, [0])]))]))
        self.assertEqual([meaning(ROUND, ("below", "n", "n", number)) for number in (-1, 0, 1)], [Line(), COUNTS, COUNTS])
        self.assertEqual(meaning(ROUND, ("and", TEN, ("some", "m", ("in", "m", Line())))), Line())
        self.assertEqual(meaning(ROUND, ("or", TEN, ("all", "m", ("in", "m", COUNTS)))), COUNTS)
        self.assertEqual(meaning(ROUND, ("and", leaf, ("all", "n", ("in", "n", COUNTS)))), grid)
        self.assertEqual(meaning(ROUND, ("or", ("all", "n", ("in", "n", COUNTS)), leaf)), Grid.every())

    def test_the_same_letter_twice(self):
        for seed in range(40):
            house = random_house(seed, 3, 8)
            place, goal = seed % house.places, (seed // 3) % house.places
            line = meaning(house, ("leads", place, "m", goal, "m"))
            lacking = meaning(house, ("not", ("leads", place, "n", goal, "n")))
            for number in [*range(12), FAR, FAR + 1, FAR + 2]:
                self.assertIs(line.has(number), leads(house, place, number, goal, number))
                self.assertIs(lacking.has(number), not line.has(number))
            self.assertIs(lacking.is_within(COUNTS), True)

    def test_letters_that_a_part_does_not_have(self):
        for word in ("some", "all"):
            self.assertEqual(meaning(HOUSE, (word, "m", TEN)), TEN[2])
            self.assertEqual(meaning(HOUSE, ("not", (word, "m", TEN))), COUNTS - TEN[2])
            self.assertIs(meaning(HOUSE, (word, "m", (word, "n", NEVER))), False)
            self.assertIs(meaning(HOUSE, (word, "m", (word, "n", ALWAYS))), True)
            self.assertIs(meaning(HOUSE, ("not", (word, "m", (word, "n", ALWAYS)))), False)
        # Within, n stands for another number than outside.
        inner = ("some", "n", ("and", ("in", "n", Line.of([3])), ("below", "m", "n", 0)))
        self.assertEqual(meaning(HOUSE, ("and", ("in", "n", Line.of([7])), inner)),
                         Grid([(Line.of([7]), Line([(0, 3, 1, [0])]), None)]))

    def test_closed_parts(self):
        true, false = ("some", "n", TEN), ("all", "n", TEN)
        for one, left in ((true, True), (false, False)):
            for two, right in ((true, True), (false, False)):
                self.assertIs(meaning(HOUSE, ("and", one, two)), left and right)
                self.assertIs(meaning(HOUSE, ("or", one, two)), left or right)
                self.assertIs(meaning(HOUSE, ("not", ("and", one, two))), not (left and right))
                self.assertIs(meaning(HOUSE, ("not", ("or", one, two))), not (left or right))
                self.assertIs(follows(HOUSE, one, two), right or not left)
                self.assertIs(are_alike(HOUSE, one, two), left == right)
            self.assertEqual(meaning(HOUSE, ("and", one, ("not", TEN))), COUNTS - TEN[2] if left else Line())
            self.assertEqual(meaning(HOUSE, ("or", TEN, one)), COUNTS if left else TEN[2])

    def test_the_overview(self):
        leaf = ("leads", 0, "n", 0, "m")
        above = ("all", "n", ("some", "m", ("and", leaf, ("not", ("below", "m", "n", 0)))))
        self.assertIs(meaning(ROUND, above), True)
        self.assertIs(meaning(ROUND, ("some", "n", ("all", "m", leaf))), True)
        self.assertEqual(witness(ROUND, ("some", "n", ("all", "m", leaf))), 1)
        self.assertIs(meaning(ROUND, ("all", "n", ("all", "m", leaf))), False)
        self.assertEqual(witness(ROUND, ("all", "n", ("all", "m", leaf))), 0)

    def test_said_otherwise(self):
        for seed in range(80):
            house, dice = random_house(seed, 2, 6), random.Random(seed)
            saying = told_saying(dice, house.places, 1000, dice.randint(1, 6))
            value, letters = meaning(house, saying), letters_of(saying)
            self.assertEqual(meaning(house, upright(saying)), value)
            left = {"": lambda: not value, "mn": lambda: value.other()}.get(letters, lambda: COUNTS - value)()
            self.assertEqual(meaning(house, negated(saying)), left)
            turned = value.turned() if letters == "mn" else value
            self.assertEqual(meaning(house, exchanged(saying)), turned)

    def test_cases_that_never_have_too_many(self):
        for seed in range(60):
            house, dice = three_places(seed), random.Random(seed)
            leaf = random_leaf(dice, 3, 1000, True)
            other = random_leaf(dice, 3, 1000, False)
            both = (dice.choice(["and", "or"]), leaf, other)
            for part in (leaf, ("not", leaf), both):
                for word in ("some", "all"):
                    for letter in "nm":
                        saying = (word, letter, part)
                        self.assertIs(are_alike(house, saying, upright(("not", ("not", saying)))), True)
                        self.assertIs(follows(house, ("all", letter, part), ("some", letter, part)), True)
                self.assertIs(are_alike(house, part, negated(part)), False)

    def test_holds(self):
        for seed in range(40):
            house, dice = random_house(seed, 2, 6), random.Random(seed)
            saying = told_saying(dice, house.places, 6, dice.randint(1, 4))
            value, letters = meaning(house, saying), letters_of(saying)
            for start in (0, 1, 5, FAR):
                for end in (0, 2, 7, FAR + 3):
                    right = {"": lambda: value, "n": lambda: value.has(start), "m": lambda: value.has(end),
                             "mn": lambda: value.has(start, end)}[letters]()
                    self.assertIs(holds(house, saying, {"n": start, "m": end}), right)
                    self.assertIs(holds(house, saying, {"m": end, "n": start}), right)
                    if letters == "m":
                        self.assertIs(holds(house, saying, {"m": end}), right)
        self.assertIs(holds(HOUSE, ("some", "n", TEN), {}), True)
        self.assertIs(holds(HOUSE, ("some", "n", TEN), {"m": 3}), True)

    def test_errors_of_holds(self):
        wrong = [{"x": 1}, {"n": 1, "k": 2}, {0: 1}, {True: 1}, {"nm": 1}, {"": 0}, {None: 1}, [("n", 1)], ("n", 1), None, 3, "n"]
        for value in wrong + [odd for odd in ANY if odd != {}] + [{"n": odd} for odd in NO_COUNTS] + [{"n": 0, "m": odd} for odd in NO_COUNTS]:
            with self.assertRaises(InvalidValues) as caught:
                holds(HOUSE, TEN, value)
            self.assertIs(caught.exception.value, value)
        for saying, values, letter in ((LEADS, {}, "m"), (LEADS, {"n": 1}, "m"), (LEADS, {"m": 1}, "n"), (TEN, {}, "n"),
                                       (TEN, {"m": 4}, "n"), (("in", "m", TEN[2]), {"n": 2}, "m")):
            with self.assertRaises(MissingLetter) as caught:
                holds(HOUSE, saying, values=values)
            self.assertEqual(caught.exception.letter, letter)

    def test_first_for(self):
        self.assertEqual(first_for(HOUSE, LEADS), meaning(HOUSE, LEADS).first())
        self.assertEqual(first_for(HOUSE, ("not", TEN)), 10)
        self.assertIsNone(first_for(HOUSE, NEVER))
        self.assertIsNone(first_for(HOUSE, ("and", LEADS, ("and", NEVER, ALWAYS))))
        self.assertEqual(first_for(HOUSE, ("some", "n", TEN)), ())
        self.assertIsNone(first_for(HOUSE, ("all", "n", TEN)))
        self.assertEqual(first_for(HOUSE, ("and", ("below", "m", "n", -3), ("not", ("in", "m", Line.of([0, 1]))))), (5, 2))
        self.assertEqual(first_for(HOUSE, ("not", ("in", "m", Line([(0, FAR, 1, [0])])))), FAR + 1)
        for seed in range(60):
            house, dice = random_house(seed, 2, 6), random.Random(seed)
            saying = told_saying(dice, house.places, 5, dice.randint(1, 4))
            value, letters = meaning(house, saying), letters_of(saying)
            told = first_for(house, saying)
            if letters == "":
                self.assertEqual(told, () if value else None)
            else:
                self.assertEqual(told, value.first() if letters == "mn" else value.least())

    def test_witness(self):
        self.assertEqual(witness(HOUSE, ("some", "n", ("not", TEN))), 10)
        self.assertEqual(witness(HOUSE, ("all", "n", TEN)), 10)
        self.assertIsNone(witness(HOUSE, ("some", "n", NEVER)))
        self.assertIsNone(witness(HOUSE, ("all", "m", ALWAYS)))
        closed = ("some", "n", TEN)
        self.assertEqual([witness(HOUSE, (word, letter, closed)) for word in ("some", "all") for letter in "nm"], [0, 0, None, None])
        false = ("not", closed)
        self.assertEqual([witness(HOUSE, (word, letter, false)) for word in ("some", "all") for letter in "nm"], [None, None, 0, 0])
        for saying in (("not", ("all", "n", TEN)), ("and", closed, closed), ("or", false, closed), ("not", false)):
            self.assertIsNone(witness(HOUSE, saying))
        for seed in range(80):
            house, dice = random_house(seed, 2, 6), random.Random(seed)
            whole = told_saying(dice, house.places, 5, dice.randint(1, 3), 3)
            for letter in "nm":
                more = ("or", whole, NEVER) if letter == "n" else ("and", whole, ALWAYS)
                part = whole if letter in letters_of(whole) else more
                inner = (dice.choice(["some", "all"]), {"n": "m", "m": "n"}[letter], part)
                self.assertEqual(witness(house, ("some", letter, inner)), meaning(house, inner).least())
                self.assertEqual(witness(house, ("all", letter, inner)), (COUNTS - meaning(house, inner)).least())

    def test_open_sayings(self):
        for saying, free in ((LEADS, "mn"), (TEN, "n"), (("some", "n", LEADS), "m"), (("all", "m", TEN), "n")):
            with self.assertRaises(OpenSaying) as caught:
                witness(HOUSE, saying=saying)
            self.assertEqual(caught.exception.free, free)

    def test_alike_and_follows(self):
        for seed in range(60):
            house, dice = random_house(seed, 2, 6), random.Random(seed)
            one, two = [told_saying(dice, house.places, 4, dice.randint(1, 4)) for _ in range(2)]
            two = dice.choice([two, upright(one), ("or", two, one) if depth_of(two) < 6 and depth_of(one) < 6 else two])
            told = walked_leads(house)
            pairs = [(holds_for(one, {"n": n, "m": m}, told, 25), holds_for(two, {"n": n, "m": m}, told, 25))
                     for n in range(0, 12, 2) for m in range(0, 12, 3)]
            if any(left != right for left, right in pairs):
                self.assertIs(are_alike(house, one, two), False)
            if any(left and not right for left, right in pairs):
                self.assertIs(follows(house, one, two), False)
            self.assertIs(are_alike(house, one, two), follows(house, one, two) and follows(house, two, one))
            self.assertIs(are_alike(house, one, upright(one)), True)
            self.assertIs(are_alike(house, one, negated(one)), False)
            if depth_of(one) < 6 and depth_of(two) < 6:
                self.assertIs(follows(house, ("and", one, two), two), True)
                self.assertIs(follows(house, two, ("or", one, two)), True)

    def test_alike_with_unlike_letters(self):
        for_all = ("all", "n", ("in", "n", COUNTS))
        self.assertIs(are_alike(HOUSE, ("in", "n", COUNTS), ("in", "m", COUNTS)), True)
        self.assertIs(are_alike(HOUSE, ("in", "n", COUNTS), for_all), True)
        self.assertIs(are_alike(HOUSE, ("in", "m", Line()), ("not", for_all)), True)
        self.assertIs(are_alike(HOUSE, TEN, ("in", "m", TEN[2])), False)
        self.assertIs(are_alike(HOUSE, TEN, exchanged(TEN)), False)
        self.assertIs(follows(HOUSE, TEN, for_all), True)
        self.assertIs(follows(HOUSE, for_all, TEN), False)
        self.assertIs(follows(HOUSE, ("not", for_all), TEN), True)
        self.assertIs(follows(HOUSE, ("and", TEN, ("in", "m", Line.of([3]))), ("in", "m", TEN[2])), True)
        far = ("in", "n", COUNTS - Line.of([FAR]))
        self.assertIs(follows(HOUSE, ("in", "n", COUNTS), far), False)
        self.assertIs(follows(HOUSE, far, ("in", "n", COUNTS)), True)

    def test_errors(self):
        wrong = ANY + [("leads", 2, "n", 0, "m"), ("leads", 0, "n", 2, "m"), ("below", "n", "m", True), list(TEN), ("not", list(TEN))]
        for odd in wrong:
            for call in (lambda: meaning(HOUSE, odd), lambda: holds(HOUSE, odd, None), lambda: first_for(HOUSE, odd),
                         lambda: witness(HOUSE, odd), lambda: are_alike(HOUSE, odd, None), lambda: follows(HOUSE, odd, None),
                         lambda: are_alike(HOUSE, TEN, odd), lambda: follows(HOUSE, TEN, odd),
                         lambda: follows(other=odd, saying=TEN, house=HOUSE), lambda: holds(values={}, saying=odd, house=HOUSE)):
                with self.assertRaises(InvalidSaying) as caught:
                    call()
                self.assertIs(caught.exception.value, odd)

    def test_nothing_is_changed(self):
        values = {"n": 7}
        holds(HOUSE, SAYING, values)
        self.assertEqual(values, {"n": 7})
        self.assertEqual(SAYING, ("some", "m", ("and", ("leads", 0, "n", 1, "m"), ("not", ("below", "m", "n", 0)))))

    def test_example(self):
        self.assertEqual((holds(HOUSE, SAYING, {"n": 7}), first_for(HOUSE, ("not", SAYING)),
                          witness(HOUSE, ("all", "n", ("in", "n", Line.of([0, 1]))))), (True, None, 2))


if __name__ == "__main__":
    unittest.main()
