"""Point 26: gain tables, their judge, and what they shut."""

import unittest

from lonetill.errors import InvalidMany, InvalidPlace
from lonetill.gains import extras, leads_plain
from lonetill.houses import House
from lonetill.lines import Line
from lonetill.tables import gain_table, is_gain_table, shuts
from tests.odd import ANY, NO_COUNTS
from tests.walked import random_house

FAR = 10 ** 29
STALL = House(2, [(0, 1, 0, "any"), (0, 0, 1, "any"), (1, -1, 1, "any"), (1, 0, 0, "empty")])
EVERY = Line.every()


def entry_let(entry, start, end):
    """Whether an entry lets a start and an end, as point 26 tells it."""
    return entry[1].has(end - start) and start >= max(0, start - end) + entry[0]


def closed_by_steps(house, place, table, wide):
    """Whether a table holds for all gains from -wide to wide, gain by gain."""
    if not any(k == 0 and line.has(0) for k, line in table[place]):
        return False
    for begin, change, goal, when in house.deeds():
        for k, line in table[begin] if when == "any" else []:
            for gain in range(-wide, wide + 1):
                most = k
                if change == 1 and gain < 0:
                    most = k + 1
                if change == -1 and gain <= 0:
                    most = max(k, 1) - 1
                if line.has(gain) and not any(m <= most and more.has(gain + change) for m, more in table[goal]):
                    return False
    return True


class Tables(unittest.TestCase):
    def test_extras_are_a_table(self):
        for seed in range(200):
            house = random_house(seed, 5, 14)
            for place in range(house.places):
                table = gain_table(house, place)
                self.assertEqual(list(table), list(range(house.places)))
                self.assertEqual(table, {goal: extras(house, place, goal) for goal in table})
                self.assertIs(is_gain_table(house, place, table), True)

    def test_shuts_just_what_does_not_lead(self):
        for seed in range(60):
            house = random_house(seed, 4, 10)
            for place in range(house.places):
                table = gain_table(house, place)
                for start, end in ((0, 0), (0, 3), (4, 1), (FAR, FAR + 1), (FAR, 0), (2, FAR)):
                    for goal in table:
                        self.assertIs(shuts(house, place, start, goal, end, table),
                                      not leads_plain(house, place, start, goal, end))

    def test_lines_of_many_periods(self):
        # No common period of these could be told: 59 * 58 * 57 * 55 * 53 * 51.
        house = House(1, [(0, 0, 0, "any")])
        ones = [(0, Line([(None, None, period, [0])])) for period in (59, 58, 57, 55, 53, 51)]
        self.assertIs(is_gain_table(house, 0, {0: ones}), True)
        self.assertIs(is_gain_table(house, 0, {0: ones + [(1, Line([(None, None, 49, [3])]))]}), True)
        house = House(2, [(0, 0, 1, "any")])
        self.assertIs(is_gain_table(house, 0, {0: ones, 1: [(0, EVERY)]}), True)
        self.assertIs(is_gain_table(house, 0, {0: ones, 1: ones[::-1]}), True)
        self.assertIs(is_gain_table(house, 0, {0: ones, 1: ones[1:]}), False)
        self.assertIs(is_gain_table(house, 0, {0: [(0, EVERY)], 1: ones}), False)
        self.assertIs(is_gain_table(house, 0, {0: [(0, EVERY - Line.of([FAR]))], 1: ones}), False)

    def test_changed_tables_against_steps(self):
        right, wrong = 0, 0
        for seed in range(250):
            house = random_house(seed, 3, 8)
            table = gain_table(house, 0)
            goal = seed % house.places
            rows = table[goal]
            for changed in self.changes_of(rows, seed):
                value = {**table, goal: changed}
                known = closed_by_steps(house, 0, value, 60)
                self.assertIs(is_gain_table(house, 0, value), known, (house, value))
                right, wrong = right + known, wrong + (not known)
        self.assertGreater(min(right, wrong), 60)

    def changes_of(self, rows, seed):
        yield rows[1:]
        yield rows[::-1] + [(5, EVERY)]
        yield [(k, line - Line.of([seed % 7 - 3])) for k, line in rows]
        yield [(k, line | Line.of([seed % 5 - 9])) for k, line in rows]
        yield [(k + 1, line) for k, line in rows]
        yield [(max(k, 1) - 1, line) for k, line in rows]
        yield tuple(rows)

    def test_the_rules_for_counts(self):
        up, down = House(3, [(0, 1, 1, "any")]), House(3, [(0, -1, 1, "any")])
        for house, gain, k, most in ((up, 0, 2, 2), (up, 5, 2, 2), (up, -1, 2, 3), (up, -9, 0, 1), (up, FAR, 0, 0),
                                     (down, 1, 2, 2), (down, 9, 0, 0), (down, 0, 2, 1), (down, 0, 1, 0),
                                     (down, 0, 0, 0), (down, -FAR, 3, 2), (down, -1, 0, 0)):
            behind = Line.of([gain + house.deeds()[0][1]])
            for m in range(6):
                # The place 2 of the table has no deeds: all hangs on the one deed from 0 to 1.
                table = {0: [(k, Line.of([gain]))], 1: [(m, behind), (k + 5, EVERY)], 2: [(0, Line.of([0]))]}
                self.assertIs(is_gain_table(house, 2, table), m <= most, (house, gain, k, m))
        flat = House(3, [(0, 0, 1, "any")])
        for gain in (-FAR, -1, 0, 1, FAR):
            for m in range(4):
                table = {0: [(2, Line.of([gain]))], 1: [(m, EVERY)], 2: [(0, EVERY)]}
                self.assertIs(is_gain_table(flat, 2, table), m <= 2)

    def test_the_beginning(self):
        house = House(2, [])
        self.assertIs(is_gain_table(house, 0, {0: [(0, Line.of([0]))], 1: []}), True)
        self.assertIs(is_gain_table(house, 1, {0: [(0, Line.of([0]))], 1: []}), False)
        self.assertIs(is_gain_table(house, 0, {0: [(1, EVERY)], 1: [(0, EVERY)]}), False)
        self.assertIs(is_gain_table(house, 0, {0: [(1, EVERY), (0, Line.of([0]))], 1: [(0, Line())]}), True)
        self.assertIs(is_gain_table(house, 0, {0: [], 1: []}), False)

    def test_entries_let(self):
        house = House(1, [(0, -1, 0, "any"), (0, 1, 0, "any")])
        table = {0: [(0, EVERY), (3, Line.of([7]))]}
        self.assertIs(is_gain_table(house, 0, table), True)
        self.assertIs(shuts(house, 0, 5, 0, 4, table), False)
        own = {0: [(0, Line.of([0])), (2, Line.of([-3]))]}
        bare = House(1, [])
        for start in range(9):
            for end in range(9):
                known = any(entry_let(entry, start, end) for entry in own[0])
                self.assertIs(shuts(bare, 0, start, 0, end, own), not known)

    def test_empty_deeds_have_no_part(self):
        for seed in range(60):
            house = random_house(seed, 4, 12)
            self.assertEqual(gain_table(house, 0), gain_table(house.plain(), 0))
        self.assertIs(is_gain_table(STALL, 1, {0: [], 1: [(0, Line([(None, 0, 1, [0])]))]}), True)

    def test_parts_that_only_together_are_enough(self):
        house = House(2, [(0, 0, 1, "any")])
        thirds = [(0, Line([(None, None, 3, [k])])) for k in range(3)]
        self.assertIs(is_gain_table(house, 0, {0: [(0, EVERY)], 1: thirds}), True)
        self.assertIs(is_gain_table(house, 0, {0: [(0, EVERY)], 1: thirds[:2]}), False)
        self.assertIs(is_gain_table(house, 0, {0: ((0, EVERY),), 1: tuple(thirds)}), True)

    def test_values_of_any_kind(self):
        table = gain_table(STALL, 1)
        line = table[1][0][1]
        wrong = ANY + [{0: table[0]}, {**table, 2: []}, {0: [], True: table[1]}, {False: [], 1: table[1]},
                       {"0": [], 1: table[1]},
                       {1: table[1], 2: []}, {-1: [], 1: table[1]}, {0: [], 1: table[1], 2: table[0]}, {1: table[1]},
                       {0: None, 1: table[1]}, {0: [], 1: table[1][0]}, {0: [], 1: [[0, line]]},
                       {0: [], 1: [(0, line, 0)]}, {0: [], 1: [(True, line)]}, {0: [], 1: [(False, line)]},
                       {0: [], 1: [(-1, line)]}, {0: [], 1: [(0, line.stretches())]}, {0: [], 1: [(0, line), None]},
                       [table[0], table[1]], list(table.items()), {0: {}, 1: table[1]}, {0: "", 1: table[1]}]
        for value in wrong:
            self.assertIs(is_gain_table(STALL, 1, value), False, value)
            self.assertIs(shuts(STALL, 1, 9, 0, 0, value), False, value)
        self.assertIs(is_gain_table(house=STALL, place=1, value={1: tuple(table[1]), 0: ()}), True)

    def test_new_each_time(self):
        table = gain_table(STALL, 0)
        table[1].append(None)
        del table[0]
        self.assertEqual(gain_table(STALL, 0)[1], extras(STALL, 0, 1))
        value = gain_table(STALL, 1)
        is_gain_table(STALL, 1, value)
        self.assertEqual(value, gain_table(STALL, 1))

    def test_errors(self):
        for value in NO_COUNTS + [2, FAR]:
            for act in (lambda: gain_table(STALL, value), lambda: is_gain_table(STALL, value, None),
                        lambda: shuts(STALL, value, None, None, None, None),
                        lambda: gain_table(house=STALL, place=value),
                        lambda: shuts(STALL, 0, 0, value, None, None)):
                with self.assertRaises(InvalidPlace) as caught:
                    act()
                self.assertIs(caught.exception.value, value)
        for value in NO_COUNTS:
            for act in (lambda: shuts(STALL, 0, value, None, None, None),
                        lambda: shuts(value=None, house=STALL, place=0, start=0, goal=1, end=value)):
                with self.assertRaises(InvalidMany) as caught:
                    act()
                self.assertIs(caught.exception.value, value)

    def test_examples(self):
        self.assertEqual([gain_table(STALL, 1)[0], shuts(STALL, 1, 9, 0, 0, gain_table(STALL, 1)),
                          shuts(STALL, 1, 9, 1, 0, gain_table(STALL, 1))], [[], True, False])


if __name__ == "__main__":
    unittest.main()
