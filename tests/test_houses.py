"""Point 5: houses, their deeds, and the houses that are made of them."""

import unittest

from lonetill.errors import InvalidDeed, InvalidDeeds, InvalidHouse, InvalidOrder, InvalidPlaces, InvalidPosition
from lonetill.errors import NotPlain, TooMany
from lonetill.houses import House
from tests.odd import ANY, NO_COUNTS

STALL = [(0, 1, 0, "any"), (0, 0, 1, "any"), (1, -1, 1, "any"), (1, 0, 0, "empty")]
WRONG = [None, 7, "abcd", (), [0, 1, 0, "any"], (0, 1, 0), (0, 1, 0, "any", 0), (2, 1, 0, "any"), (0, 1, 2, "any"),
         (-1, 1, 0, "any"), (0, 1, -1, "any"), (True, 1, 0, "any"), (0, True, 0, "any"), (0, False, 0, "any"),
         (0, 1, False, "any"), (0, 2, 0, "any"), (0, -2, 0, "any"), (0, -1, 0, "empty"), (0, 2, 0, "empty"),
         (0, None, 0, "any"), (0, 1, 0, None), (0, 1, 0, "Any"), (0, 1, 0, ""), (0, 1, 0, b"any"),
         (0, 1, 0, ["any"]), ("0", 1, 0, "any")]


def many_deeds(many, places=16):
    """So many unlike deeds."""
    return [(k % places, k // places % 3 - 1, (k // (3 * places)) % places, "any") for k in range(many)]


class Made(unittest.TestCase):
    def test_properties(self):
        house = House(2, STALL)
        self.assertEqual((house.places, house.is_plain, len(house), house.deeds()), (2, False, 4, STALL))
        self.assertIs(House(places=1, deeds=()).is_plain, True)
        self.assertIs(House(2, STALL[:3]).is_plain, True)
        self.assertEqual(repr(House(2, [(0, 1, 1, "any")])), "House(2, [(0, 1, 1, 'any')])")
        self.assertEqual(repr(House(1, [])), "House(1, [])")
        self.assertEqual(House(16, many_deeds(60)).deeds(), many_deeds(60))

    def test_equality(self):
        house = House(2, STALL)
        self.assertIs(house == House(2, tuple(STALL)), True)
        for other in (House(3, STALL), House(2, STALL[::-1]), House(2, STALL[:3]), House(1, [])):
            self.assertIs(house == other, False)
            self.assertIs(house != other, True)
        for value in ANY:
            self.assertIs(house == value, False)

    def test_copies(self):
        deeds = list(STALL)
        house = House(2, deeds)
        deeds.pop()
        house.deeds().pop()
        self.assertEqual(house.deeds(), STALL)

    def test_places(self):
        for value in NO_COUNTS + [0, 17, 10 ** 20]:
            with self.assertRaises(InvalidPlaces) as caught:
                House(value, None)
            self.assertIs(caught.exception.value, value)

    def test_deeds(self):
        for value in (None, 7, "", "ab", {}, {STALL[0]}, House(1, [])):
            with self.assertRaises(InvalidDeeds) as caught:
                House(2, value)
            self.assertIsNone(caught.exception.position)
        for value in WRONG + STALL:
            with self.assertRaises(InvalidDeeds) as caught:
                House(2, STALL + [value, None])
            self.assertEqual(caught.exception.position, 4)
        with self.assertRaises(InvalidDeeds) as caught:
            House(deeds=[STALL[2]], places=1)
        self.assertEqual(caught.exception.position, 0)

    def test_too_many(self):
        with self.assertRaises(TooMany) as caught:
            House(16, many_deeds(61))
        self.assertEqual((caught.exception.what, caught.exception.limit), ("deeds", 60))
        with self.assertRaises(InvalidDeeds) as caught:
            House(16, many_deeds(61) + [many_deeds(1)[0]])
        self.assertEqual(caught.exception.position, 61)


class MadeOfOthers(unittest.TestCase):
    def setUp(self):
        self.house = House(2, STALL)

    def tearDown(self):
        self.assertEqual(self.house, House(2, STALL))

    def test_with_deed(self):
        deed = (1, 1, 0, "empty")
        self.assertEqual(self.house.with_deed(deed).deeds(), STALL + [deed])
        self.assertEqual(self.house.with_deed(deed=deed).places, 2)
        full = House(16, many_deeds(60))
        for value in WRONG + STALL:
            with self.assertRaises(InvalidDeed) as caught:
                self.house.with_deed(value)
            self.assertIs(caught.exception.value, value)
        with self.assertRaises(InvalidDeed):
            full.with_deed(many_deeds(1)[0])
        with self.assertRaises(TooMany) as caught:
            full.with_deed((15, 1, 15, "empty"))
        self.assertEqual((caught.exception.what, caught.exception.limit), ("deeds", 60))

    def test_without_deed(self):
        self.assertEqual(self.house.without_deed(1).deeds(), [STALL[0], STALL[2], STALL[3]])
        self.assertEqual(self.house.without_deed(position=3).is_plain, True)
        for value in NO_COUNTS + [4, 10 ** 20]:
            with self.assertRaises(InvalidPosition) as caught:
                self.house.without_deed(value)
            self.assertIs(caught.exception.value, value)

    def test_renumbered(self):
        house = House(3, [(0, 1, 1, "any"), (1, 0, 2, "empty"), (2, -1, 0, "any")])
        self.assertEqual(house.renumbered([2, 0, 1]),
                         House(3, [(2, 1, 0, "any"), (0, 0, 1, "empty"), (1, -1, 2, "any")]))
        self.assertEqual(house.renumbered(order=(0, 1, 2)), house)
        for value in (None, 5, "012", [0, 1], [0, 1, 2, 3], [0, 1, 1], [0, 1, 3], [-1, 0, 1], [False, 1, 2],
                      [0, True, 2], ["0", 1, 2], {0: 0, 1: 1, 2: 2}, [0, 1, None], [[0], 1, 2]):
            with self.assertRaises(InvalidOrder) as caught:
                house.renumbered(value)
            self.assertIs(caught.exception.value, value)

    def test_beside(self):
        both = self.house.beside(House(1, [(0, 1, 0, "empty")]))
        self.assertEqual(both, House(3, STALL + [(2, 1, 2, "empty")]))
        self.assertEqual(House(1, []).beside(other=self.house).deeds()[1], (1, 0, 2, "any"))
        for value in ANY:
            if not isinstance(value, House):
                with self.assertRaises(InvalidHouse) as caught:
                    self.house.beside(value)
                self.assertIs(caught.exception.value, value)
        with self.assertRaises(TooMany) as caught:
            self.house.beside(House(15, many_deeds(60, 15)))
        self.assertEqual((caught.exception.what, caught.exception.limit), ("places", 16))
        with self.assertRaises(TooMany) as caught:
            self.house.beside(House(14, many_deeds(57, 14)))
        self.assertEqual((caught.exception.what, caught.exception.limit), ("deeds", 60))
        self.assertEqual(len(self.house.beside(House(14, many_deeds(56, 14)))), 60)

    def test_plain_and_turned(self):
        self.assertEqual(self.house.plain(), House(2, STALL[:3]))
        self.assertEqual(self.house.plain().turned(),
                         House(2, [(0, -1, 0, "any"), (1, 0, 0, "any"), (1, 1, 1, "any")]))
        with self.assertRaises(NotPlain):
            self.house.turned()

    def test_examples(self):
        stall = House(2, STALL)
        self.assertEqual([len(stall), stall.is_plain, stall.plain().turned().deeds()],
                         [4, False, [(0, -1, 0, "any"), (1, 0, 0, "any"), (1, 1, 1, "any")]])

    def test_methods_stand_in_the_class(self):
        for name in """places is_plain deeds with_deed without_deed renumbered beside plain turned __len__ __eq__
                       __repr__""".split():
            self.assertIn(name, vars(House))


if __name__ == "__main__":
    unittest.main()
