"""Points 21 and 22: goings told in laps, against goings done deed by deed."""

import random
import unittest

from lonetill.errors import InvalidGoing, InvalidMany, InvalidPlace, NotPlain
from lonetill.goings import behind, deeds_in, gain_of, is_going, need_of
from lonetill.houses import House
from tests.odd import ANY, NO_COUNTS
from tests.walked import random_house

FAR = 10 ** 29
STALL = House(2, [(0, 1, 0, "any"), (0, 0, 1, "any"), (1, -1, 1, "any"), (1, 0, 0, "empty")])


def spelled(going):
    """The positions of all deeds of a going, one behind another."""
    out = []
    for item in going:
        out += spelled(item[0]) * item[1] if isinstance(item, tuple) else [item]
    return out


def hangs(house, positions):
    """Whether the deeds hang together."""
    deeds = [house.deeds()[k] for k in positions]
    return all(one[2] == two[0] for one, two in zip(deeds, deeds[1:]))


def done(house, place, start, positions):
    """The stand behind the deeds; None if one of them can't be done."""
    for position in positions:
        begin, change, goal, when = house.deeds()[position]
        if begin != place or start + change < 0 or (when == "empty" and start != 0):
            return None
        place, start = goal, start + change
    return (place, start)


def random_going(dice, house, lists):
    """A going by its form, mostly one that hangs together for a while."""
    out = []
    for _ in range(dice.randint(0, 3)):
        if lists > 1 and dice.random() < 0.5:
            out.append((random_going(dice, house, lists - 1), dice.choice([0, 1, 1, 2, 3])))
        elif len(house) > 0:
            last = [item for item in out[-1:] if isinstance(item, int)]
            fit = [k for k, deed in enumerate(house.deeds()) if not last or house.deeds()[last[0]][2] == deed[0]]
            out.append(dice.choice(fit) if fit and dice.random() < 0.95 else dice.randrange(len(house)))
    return out if dice.random() < 0.8 else tuple(out)


def nested(depth, inner):
    """Lists within one another, so many of them."""
    going = inner
    for _ in range(depth - 1):
        going = [(going, 2)]
    return going


class AgainstDeeds(unittest.TestCase):
    def test_random_goings(self):
        dice = random.Random(5)
        plain, empty, loose = 0, 0, 0
        for seed in range(3000):
            house = random_house(seed, 2, 6)
            going = random_going(dice, house, 4)
            positions = spelled(going)
            if not hangs(house, positions):
                loose += 1
                for act in (gain_of, need_of, deeds_in):
                    self.assertRaises(InvalidGoing, act, house, going)
                self.assertIs(is_going(house, 0, 3, going), False)
                continue
            self.assertEqual(deeds_in(house, going), len(positions))
            self.assertEqual(gain_of(house, going), sum(house.deeds()[k][1] for k in positions))
            for place in range(house.places):
                for start in range(5):
                    stand = done(house, place, start, positions)
                    self.assertIs(is_going(house, place, start, going), stand is not None, (house, going))
                    if stand is not None:
                        self.assertEqual(behind(house, place, start, going), stand)
                    else:
                        self.assertRaises(InvalidGoing, behind, house, place, start, going)
            if any(house.deeds()[k][3] == "empty" for k in positions):
                empty += 1
                self.assertRaises(NotPlain, need_of, house, going)
            else:
                plain += 1
                self.check_need(house, going, positions)
        self.assertGreater(min(plain, empty, loose), 100)

    def check_need(self, house, going, positions):
        need = need_of(house, going)
        begin = house.deeds()[positions[0]][0] if positions else 0
        self.assertIsNotNone(done(house, begin, need, positions))
        if need > 0:
            self.assertIsNone(done(house, begin, need - 1, positions))


class Told(unittest.TestCase):
    def test_without_deeds(self):
        for going in ([], (), [([], FAR)], [([0, 1], 0), ([1, 1, 0], 0)], [([([], 5)], 2)]):
            self.assertEqual((deeds_in(STALL, going), gain_of(STALL, going), need_of(STALL, going)), (0, 0, 0))
            self.assertEqual(behind(STALL, 1, 7, going), (1, 7))
            self.assertEqual(behind(STALL, 0, 0, going), (0, 0))
            self.assertIs(is_going(STALL, 0, 3, going), True)

    def test_very_many_times(self):
        round_ = House(1, [(0, 1, 0, "any"), (0, -1, 0, "any")])
        falling = [([([0, 1, 1], 7)], FAR)]
        self.assertEqual((need_of(round_, falling), gain_of(round_, falling)), (7 * FAR, -7 * FAR))
        self.assertEqual(deeds_in(round_, falling), 21 * FAR)
        self.assertIs(is_going(round_, 0, 7 * FAR - 1, falling), False)
        self.assertEqual(behind(round_, 0, 7 * FAR, falling), (0, 0))
        rising = [([1, 1, 0, 0, 0], FAR)]
        self.assertEqual((need_of(round_, rising), gain_of(round_, rising)), (2, FAR))
        deep = [([([([0], FAR)], FAR)], FAR)]
        self.assertEqual(deeds_in(round_, deep), FAR ** 3)

    def test_empty_deeds(self):
        house = House(1, [(0, 1, 0, "any"), (0, -1, 0, "any"), (0, 1, 0, "empty"), (0, 0, 0, "empty")])
        self.assertEqual(behind(house, 0, FAR, [([1], FAR), 3, ([3], FAR), 2, 0]), (0, 2))
        self.assertIs(is_going(house, 0, FAR + 1, [([1], FAR), 3]), False)
        self.assertEqual(behind(house, 0, 0, [([2, 1], FAR)]), (0, 0))
        self.assertIs(is_going(house, 0, 0, [([2, 1, 0], FAR)]), False)
        self.assertEqual(behind(house, 0, 0, [([2, 1, 0], 1)]), (0, 1))
        self.assertIs(is_going(house, 0, 0, [1, 2]), False)
        self.assertIs(is_going(house, 0, 1, [1, 2, 2]), False)
        self.assertEqual((gain_of(house, [1, 2, 2]), deeds_in(house, [1, 2, 2])), (1, 3))
        self.assertRaises(NotPlain, need_of, house, [1, 2, 2])
        self.assertEqual(need_of(house, [1, ([2], 0)]), 1)

    def test_depth(self):
        self.assertEqual(deeds_in(STALL, nested(4, [0, 0])), 16)
        for going in (nested(5, [0]), nested(5, []), nested(9, [0]), [0, (nested(4, [0]), 0)]):
            self.assertIs(is_going(STALL, 0, 0, going), False)
            for act in (gain_of, need_of, deeds_in):
                with self.assertRaises(InvalidGoing) as caught:
                    act(STALL, going)
                self.assertIs(caught.exception.value, going)

    def test_laps_that_do_not_hang_together(self):
        for going in ([1, 0], [0, 2], [([0, 1], 2)], [([1], 2)], [0, ([2], 1)], [([1, ([2], 3), 3, 1], 2)]):
            self.assertRaises(InvalidGoing, gain_of, STALL, going)
        self.assertEqual(deeds_in(STALL, [([0, 1], 1), ([0], 0), 2]), 3)

    def test_wrong_forms(self):
        for going in [None, 7, True, "0", {0}, {0: 0}, [4], [-1], [True], [False], [None], ["0"], [[0]], [[0], 2],
                      [()], [([0],)], [([0], 1, 1)], [([0], -1)], [([0], True)], [([0], None)], [(0, 1)], [("0", 1)],
                      [([4], 0)], [([0, [0]], 0)], [({0: 0}, 1)], [[[0], 2]], [(2, [0])]]:
            self.assertIs(is_going(STALL, 0, 5, going), False, going)
            for act in (lambda: behind(STALL, 0, 5, going), lambda: gain_of(STALL, going=going),
                        lambda: need_of(house=STALL, going=going), lambda: deeds_in(STALL, going)):
                with self.assertRaises(InvalidGoing) as caught:
                    act()
                self.assertIs(caught.exception.value, going)

    def test_tuples_and_lists(self):
        self.assertEqual(deeds_in(STALL, (0, ((0, 0), 3), ([0], 2))), 9)
        going = [([0], 2), 1]
        self.assertEqual(behind(house=STALL, place=0, start=0, going=going), (1, 2))
        self.assertEqual(going, [([0], 2), 1])

    def test_values_of_any_kind(self):
        for value in ANY:
            self.assertIsInstance(is_going(house=STALL, place=0, start=1, value=value), bool)

    def test_errors_of_stands(self):
        for value in NO_COUNTS + [2, FAR]:
            for act in (lambda: is_going(STALL, value, None, None), lambda: behind(STALL, value, -1, None)):
                with self.assertRaises(InvalidPlace) as caught:
                    act()
                self.assertIs(caught.exception.value, value)
        for value in NO_COUNTS:
            for act in (lambda: is_going(STALL, 0, value, None), lambda: behind(STALL, 1, value, None)):
                with self.assertRaises(InvalidMany) as caught:
                    act()
                self.assertIs(caught.exception.value, value)
        with self.assertRaises(InvalidGoing) as caught:
            behind(STALL, 1, 1, [2, 2])
        self.assertEqual(caught.exception.value, [2, 2])

    def test_examples(self):
        self.assertEqual([behind(STALL, 0, 2, [([0], 10 ** 20), 1, ([2], 10 ** 20 + 2), 3]),
                          deeds_in(STALL, [([0, 0], 7), 1])], [(0, 0), 15])
        self.assertEqual(need_of(STALL, [([2], 5)]), 5)


if __name__ == "__main__":
    unittest.main()
