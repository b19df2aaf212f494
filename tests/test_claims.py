"""Points 93, 94: claims, contraries, and papers of both."""

import random
import unittest

from lonetill.claims import contrary, is_claim, is_paper_of, is_true, paper_of, words
from lonetill.empties import leads
from lonetill.errors import InvalidClaim
from lonetill.families import Least
from lonetill.houses import House
from lonetill.least import least_price
from lonetill.lines import Line
from lonetill.meanings import meaning
from lonetill.readers import Reader
from lonetill.roofs import least_roof
from lonetill.words import parting_word
from tests.odd import ANY, Strange
from tests.priced import priced_house
from tests.test_words import two_readers

FAR = 10 ** 29
ROUND = House(2, [(0, 1, 1, "any"), (1, 1, 0, "any")])
HOUSE = House(3, [(0, 1, 1, "any"), (1, 1, 0, "any"), (0, -1, 2, "any"), (2, -1, 2, "any"), (2, 0, 0, "empty")])
PRICES = [1, 2, 3, 1, 5]
ONE = Reader(2, {"a": 1, "b": -1}, [(0, "a", 0), (0, "b", 1), (1, "b", 1)], {1: "empty"})
OTHER = Reader(1, {"a": 1, "b": -1}, [(0, "b", 0)], {0: "empty"})
CLOSED = ("all", "n", ("some", "m", ("and", ("leads", 0, "n", 0, "m"), ("not", ("below", "m", "n", 0)))))
CLAIMS = [("leads", HOUSE, 0, 5, 0, 2), ("cheap", HOUSE, PRICES, 0, 5, 0, 0, 20), ("under", HOUSE, 0, 5, 0, 0, 5), ("unlike", ONE, 0, OTHER, 0, 1), ("holds", HOUSE, CLOSED)]


class Claims(unittest.TestCase):
    def test_words(self):
        self.assertEqual(words(), [("leads", "shut"), ("cheap", "dear"), ("under", "over"), ("unlike", "alike"), ("holds", "fails")])
        words().clear()
        self.assertEqual(len(words()), 5)

    def test_claims(self):
        for claim, (first, second) in zip(CLAIMS, words()):
            self.assertIs(is_claim(claim), True)
            self.assertIs(is_claim((second,) + claim[1:]), True)
            self.assertIs(is_true(claim), True)
            self.assertIs(is_true((second,) + claim[1:]), False)
            for value in (list(claim), claim[:-1], claim + (0,), ("told",) + claim[1:], (first.upper(),) + claim[1:], (None,) + claim[1:], (1,) + claim[1:], (first,), ([first],) + claim[1:]):
                self.assertIs(is_claim(value), False, value)
        for value in ANY + [(), ("leads",), Strange()]:
            self.assertIs(is_claim(value), False)

    def test_parts_of_each_wrong_kind(self):
        for claim in CLAIMS:
            for at in range(1, len(claim)):
                for odd in ANY + [99, FAR, House(1, []), Reader(1, {"a": 0}, [], {}), ("below", "n", "m", 0), ("leads", 3, "n", 0, "m")]:
                    if self.is_let(claim, at, odd):
                        continue
                    value = claim[:at] + (odd,) + claim[at + 1:]
                    self.assertIs(is_claim(value), False, (value, at))
                    self.assertIs(is_claim((dict(words())[claim[0]],) + value[1:]), False)
                    for call in (is_true, contrary, paper_of, lambda claim: is_paper_of(claim, None)):
                        with self.assertRaises(InvalidClaim) as caught:
                            call(value)
                        self.assertIs(caught.exception.value, value)

    def is_let(self, claim, at, odd):
        """Whether such a part makes a claim again."""
        if isinstance(odd, House):
            return at == 1 and len(odd) == 0 and claim[0] != "cheap"
        is_count = isinstance(odd, int) and not isinstance(odd, bool) and odd >= 0
        places = {"leads": {2: 3, 4: 3}, "cheap": {3: 3, 5: 3}, "under": {2: 3, 4: 3}, "unlike": {2: 2, 4: 1}, "holds": {}}[claim[0]]
        if at in places:
            return is_count and odd < places[at]
        if claim[0] == "unlike" and at == 5:
            return is_count and odd <= 40
        counts = {"leads": (3, 5), "cheap": (4, 6, 7), "under": (3, 5, 6), "unlike": (), "holds": ()}[claim[0]]
        return at in counts and is_count

    def test_errors_of_the_functions(self):
        seven = House(7, [])
        self.assertIs(is_claim(("cheap", seven, [], 0, 0, 0, 0, 0)), False)
        self.assertIs(is_claim(("leads", seven, 0, 0, 0, 0)), True)
        self.assertIs(is_claim(("cheap", HOUSE, PRICES[1:], 0, 0, 0, 0, 0)), False)
        self.assertIs(is_claim(("cheap", HOUSE, [1, 2, 3, 4, 1001], 0, 0, 0, 0, 0)), False)
        self.assertIs(is_claim(("dear", HOUSE, tuple(PRICES), 0, 0, 0, 0, 0)), True)
        self.assertIs(is_claim(("unlike", ONE, 0, OTHER, 0, 40)), True)
        self.assertIs(is_claim(("unlike", ONE, 0, OTHER, 0, 41)), False)
        self.assertIs(is_claim(("alike", ONE, 0, Reader(1, {"a": 1, "b": 0}, [], {}), 0, 1)), False)
        self.assertIs(is_claim(("alike", ONE, 0, Reader(5, {"a": 1, "b": -1}, [], {}), 0, 1)), False)
        self.assertIs(is_claim(("holds", HOUSE, ("below", "n", "n", 0))), False)
        self.assertIs(is_claim(("fails", HOUSE, ("some", "m", ("leads", 0, "n", 0, "m")))), False)
        self.assertIs(is_claim(("holds", HOUSE, ("some", "m", ("leads", 0, "m", 3, "m")))), False)
        self.assertIs(is_claim(("holds", House(16, []), ("some", "m", ("leads", 0, "m", 3, "m")))), True)

    def test_contraries(self):
        for claim, (first, second) in zip(CLAIMS, words()):
            other = contrary(claim)
            self.assertEqual((other[0], other[1:], contrary(other)), (second, claim[1:], claim))
            for part, same in zip(claim[1:], other[1:]):
                self.assertTrue(part is same or isinstance(part, list))
            with self.assertRaises(InvalidClaim):
                contrary(claim=claim[1:])
        prices = list(PRICES)
        claim = ("cheap", HOUSE, prices, 0, 5, 0, 0, 20)
        other = contrary(claim)
        self.assertIsNot(other[2], prices)
        other[2].clear()
        self.assertEqual((prices, claim), (PRICES, ("cheap", HOUSE, PRICES, 0, 5, 0, 0, 20)))
        told = tuple(PRICES)
        self.assertIs(contrary(("dear", HOUSE, told, 0, 5, 0, 0, 20))[2], told)

    def test_truth(self):
        seen = {True: 0, False: 0}
        for claim, right in self.many_claims(250):
            seen[right] += 1
            self.assertIs(is_claim(claim), True)
            self.assertIs(is_true(claim), right)
            self.assertIs(is_true(contrary(claim)), not right)
        self.assertGreater(min(seen.values()), 60)

    def many_claims(self, many):
        """Claims by dice, with what the function of the second column says."""
        for seed in range(many):
            dice = random.Random(seed)
            house, prices = priced_house(seed, 1 + seed % 4)
            place, goal = dice.randrange(house.places), dice.randrange(house.places)
            start, end = dice.choice([0, 1, 3, 6, FAR]), dice.choice([0, 1, 2, 5, FAR, FAR + 1])
            word = ("leads", "cheap", "under", "unlike", "holds")[seed % 5]
            if word == "leads":
                yield (word, house, place, start, goal, end), leads(house, place, start, goal, end)
            if word == "cheap":
                price = least_price(house, prices, place, start, goal, end)
                many = dice.choice([0, 3, 9, 10 ** 6]) if price is None else max(0, price + dice.choice([-1, 0, 1]))
                yield (word, house, prices, place, start, goal, end, many), price is not None and price <= many
            if word == "under":
                roof = least_roof(house, place, start, goal, end)
                many = dice.choice([0, 3, FAR + 5]) if roof is None else max(0, roof + dice.choice([-1, 0, 1, -5]))
                yield (word, house, place, start, goal, end, many), roof is not None and roof <= many
            if word == "unlike":
                one, place, other, goal = two_readers(seed)
                start = dice.choice([0, 1, 4, 40])
                yield (word, one, place, other, goal, start), parting_word(one, place, other, goal, start) is not None
            if word == "holds":
                small = House(min(2, house.places), [deed for deed in house.deeds() if max(deed[0], deed[2]) < 2])
                saying = ("some", "n", ("all", "m", ("or", ("leads", 0, "n", small.places - 1, "m"), ("below", "m", "n", dice.randint(-2, 2)))))
                saying = dice.choice([saying, ("not", saying), ("some", "m", ("and", ("in", "m", Line.of([dice.randint(-2, 3)])), ("leads", 0, "m", 0, "m")))])
                yield (word, small, saying), meaning(small, saying)

    def test_papers(self):
        papers = {}
        for claim, right in self.many_claims(250):
            for told, truth in ((claim, right), (contrary(claim), not right)):
                paper = paper_of(told)
                self.assertIs(paper is None, not truth)
                if truth:
                    self.assertIs(is_paper_of(told, paper), True)
                    self.assertIs(is_paper_of(contrary(told), paper), False)
                    papers.setdefault(told[0], []).append((told, paper))
                for value in ANY:
                    # Of such values just goings of a deed or two may be right ones.
                    found = is_paper_of(told, value)
                    self.assertIsInstance(found, bool)
                    self.assertFalse(found and (not truth or is_paper_of(contrary(told), value)))
                    self.assertFalse(found and not isinstance(value, (list, tuple, str)))
        self.assertEqual(set(papers), {word for line in words() for word in line})
        self.check_no_paper_of_both(papers)

    def check_no_paper_of_both(self, papers):
        """No value is a paper of a claim and of its contrary, whatever claim it was made for."""
        values = [paper for word in papers for _, paper in papers[word][:6]]
        for word in papers:
            for claim, _ in papers[word][:6]:
                for value in values:
                    self.assertFalse(is_paper_of(claim, value) and is_paper_of(contrary(claim), value))
                    if is_paper_of(contrary(claim), value):
                        self.assertIs(is_true(claim), False)

    def test_leads_and_shut(self):
        claim = ("leads", HOUSE, 0, 5, 0, 2)
        self.assertIs(is_paper_of(claim, [2, ([3], 4), 4, 0, 1]), True)
        for value in ([2, ([3], 4), 4, 0], [2, ([3], 4), 4], [], [2, ([3], 5), 4, 0, 1], {0: Line.counts(), 1: Line.counts(), 2: Line.counts()}):
            self.assertIs(is_paper_of(claim, value), False)
        self.assertIs(is_paper_of(("leads", HOUSE, 0, 5, 0, 5), []), True)
        self.assertIs(is_paper_of(("leads", HOUSE, 0, 5, 0, 5), ()), True)
        evens, odds = Line([(0, None, 2, [0])]), Line([(1, None, 2, [1])])
        shut = ("shut", HOUSE, 0, 0, 0, 3)
        paper = {0: evens, 1: odds, 2: odds | evens}
        self.assertIs(is_paper_of(shut, paper), True)
        self.assertIs(is_paper_of(("shut", HOUSE, 0, 0, 0, 2), paper), False)
        self.assertIs(is_paper_of(shut, {**paper, 1: odds - Line.of([7])}), False)
        self.assertIs(is_paper_of(shut, {**paper, 0: evens | Line.of([3])}), False)
        self.assertIs(is_paper_of(shut, {0: evens, 1: odds}), False)
        self.assertIs(is_paper_of(("shut", HOUSE, 0, 1, 0, 3), paper), False)

    def test_cheap_and_dear(self):
        going = [2, ([3], 4), 4]
        for many, right in ((12, True), (13, True), (11, False), (0, False), (FAR, True)):
            claim = ("cheap", HOUSE, PRICES, 0, 5, 0, 0, many)
            self.assertIs(is_true(claim), right)
            self.assertIs(is_paper_of(claim, going), right)
            self.assertIs(is_paper_of(contrary(claim), paper_of(("dear", HOUSE, PRICES, 0, 5, 0, 0, 11))), not right)
            self.assertIs(is_paper_of(contrary(claim), {place: Least([(0, 1, 0, 0, None)]) for place in range(3)}), False)
        round_and = going + [0, 1, ([2, ([3], 1), 4], 1)]
        self.assertIs(is_paper_of(("cheap", HOUSE, PRICES, 0, 5, 0, 0, 24), round_and), True)
        self.assertIs(is_paper_of(("cheap", HOUSE, PRICES, 0, 5, 0, 0, 23), round_and), False)
        unpaid = ("dear", HOUSE, PRICES, 0, 0, 0, 3, FAR)
        paper = paper_of(unpaid)
        self.assertIs(is_paper_of(unpaid, paper), True)
        self.assertIs(is_paper_of(unpaid, {**paper, 0: Least([(0, 1, 0, 0, None)])}), False)

    def test_under_and_over(self):
        going = [2, ([3], 4), 4, 0, 1]
        for roof, right in ((5, True), (6, True), (4, False), (FAR, True)):
            claim = ("under", HOUSE, 0, 5, 0, 2, roof)
            self.assertIs(is_true(claim), right)
            self.assertIs(is_paper_of(claim, going), right)
            self.assertIs(is_paper_of(claim, [0, 1] + [2, ([3], 6), 4, 0, 1]), roof >= 7)
        above = ("over", HOUSE, 0, 5, 0, 2, 4)
        self.assertEqual(paper_of(above), ())
        self.assertIs(is_paper_of(above, ()), True)
        empty = {place: Line() for place in range(3)}
        for value in ([], "", {}, None, ((),), empty):
            self.assertIs(is_paper_of(above, value), False)
        over = ("over", HOUSE, 0, 5, 0, 9, 8)
        paper = paper_of(over)
        self.assertIs(is_paper_of(over, paper), True)
        self.assertIs(is_paper_of(over, ()), False)
        self.assertIs(is_paper_of(over, {**paper, 1: Line()}), False)
        self.assertIs(is_paper_of(over, {**paper, 0: paper[0] | Line.of([9])}), False)
        self.assertIs(is_paper_of(("over", HOUSE, 0, 5, 0, 7, 8), paper), False)

    def test_unlike_and_alike(self):
        self.assertEqual(paper_of(("unlike", ONE, 0, OTHER, 0, 1)), "abb")
        for value, right in (("abb", True), ("ab", False), ("a", False), ("aabbb", True), ("c", False), (["a", "b", "b"], False), ({(0, 0): Line.counts()}, False)):
            self.assertIs(is_paper_of(("unlike", ONE, 0, OTHER, 0, 1), value), right)
        alike = ("alike", ONE, 1, OTHER, 0, 7)
        self.assertIs(is_paper_of(alike, {(1, 0): Line([(0, 7, 1, [0])])}), True)
        self.assertIs(is_paper_of(alike, {(1, 0): Line([(1, 7, 1, [0])])}), False)
        self.assertIs(is_paper_of(("alike", ONE, 0, OTHER, 0, 1), {(1, 0): Line.counts()}), False)
        self.assertIs(is_paper_of(("unlike", ONE, 1, OTHER, 0, 7), "ab"), False)

    def test_holds_and_fails(self):
        saying = ("some", "n", ("in", "n", Line.of([-3, 4])))
        for first, word, other in ((True, "holds", "fails"), (False, "fails", "holds")):
            told = saying if first else ("not", saying)
            paper = (True, ([(4, 4, 1, [0])],))
            paper = paper if first else (False, paper)
            self.assertIs(is_paper_of((word, ROUND, told), paper), True)
            self.assertIs(is_paper_of((other, ROUND, told), paper), False)
            self.assertIs(is_paper_of((word, ROUND, told), (not first,) + paper[1:]), False)
        self.assertIs(is_paper_of(("holds", ROUND, saying), (True, ([(4, 4, 1, [0]), (-3, -3, 1, [0])],))), False)
        self.assertIs(is_paper_of(("holds", ROUND, saying), (True,)), False)
        self.assertIs(is_paper_of(("holds", ROUND, saying), (1, ([(4, 4, 1, [0])],))), False)

    def test_papers_are_new(self):
        for claim in CLAIMS:
            paper = paper_of(claim)
            if isinstance(paper, list):
                paper.clear()
                self.assertTrue(is_paper_of(claim, paper_of(claim)))
        paper = paper_of(contrary(("cheap", HOUSE, PRICES, 0, 0, 0, 3, 9)))
        paper.clear()
        self.assertEqual(len(paper_of(("dear", HOUSE, PRICES, 0, 0, 0, 3, 9))), 3)

    def test_nothing_is_changed(self):
        prices = list(PRICES)
        claim = ("cheap", HOUSE, prices, 0, 5, 0, 0, 20)
        going = [2, ([3], 4), 4]
        for call in (is_claim, is_true, contrary, paper_of, lambda claim: is_paper_of(claim, going)):
            call(claim)
        self.assertEqual((claim, prices, going), (("cheap", HOUSE, PRICES, 0, 5, 0, 0, 20), PRICES, [2, ([3], 4), 4]))

    def test_by_name(self):
        self.assertEqual([is_claim(value=CLAIMS[0]), is_true(claim=CLAIMS[0]), is_paper_of(value=paper_of(claim=CLAIMS[0]), claim=CLAIMS[0])], [True] * 3)

    def test_example(self):
        claim = ("leads", ROUND, 0, 5, 0, 9)
        self.assertEqual([is_true(claim), contrary(claim)[0], is_paper_of(claim, [([0, 1], 2)]), is_paper_of(claim, [0, 1]), is_true(("leads", ROUND, 0, 5, 0, 8))],
                         [True, "shut", True, False, False])


if __name__ == "__main__":
    unittest.main()
