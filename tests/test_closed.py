"""Points 34, 35, 36: closed papers of a stand, all-closed papers of a place, and what they bar."""

import random
import unittest

from lonetill.closed import all_closed, bars, bars_all, is_all_closed, is_closed
from lonetill.empties import leads
from lonetill.ends import ends, rectangles
from lonetill.errors import InvalidMany, InvalidPlace
from lonetill.gains import extras
from lonetill.houses import House
from lonetill.lines import Line
from tests.odd import ANY, NO_COUNTS
from tests.test_ends import ring_house
from tests.walked import random_house, steps_from

FAR = 10 ** 29
HOUSE = House(2, [(0, -1, 0, "any"), (0, 0, 1, "empty"), (1, 1, 1, "any")])
COUNTS = Line.counts()


def closed_by_steps(house, place, start, value, most):
    """Whether Lines are a closed paper, looked at number by number up to most."""
    if not value[place].has(start) or any(line.next_from(-10 ** 35) not in (None, line.next_from(0)) for line in value.values()):
        return False
    for middle in range(house.places):
        for number in range(most + 1):
            if value[middle].has(number):
                if not all(value[goal].has(behind) for goal, behind in steps_from(house, (middle, number), False)):
                    return False
    return True


def random_line(dice):
    """A Line near 0, mostly of COUNTS, and mostly with much in it."""
    low = dice.choice([0, 0, 0, 1, 2, 5, -1])
    period = dice.randint(1, 3)
    line = Line([(low, dice.choice([None, None, 9]), period, sorted(dice.sample(range(period), dice.randint(1, period))))])
    return line | Line.of([dice.randint(0, 4)]) if dice.random() < 0.5 else line


def all_closed_by_steps(house, place, value, most):
    """Whether gains and rectangles are an all-closed paper, number by number up to most (gains from minus it)."""
    gains = {goal: value[goal][0] for goal in value}
    if not any(k == 0 and line.has(0) for k, line in gains[place]):
        return False
    for begin, change, goal, when in house.deeds():
        boxes = value[goal][1]
        if when == "any":
            for k, line in gains[begin]:
                for gain in range(-most, most + 1):
                    least = k + 1 if change == 1 and gain < 0 else max(k, 1) - 1 if change == -1 and gain <= 0 else k
                    if line.has(gain) and not any(m <= least and more.has(gain + change) for m, more in gains[goal]):
                        return False
            for starts, told in value[begin][1]:
                wider = [more for wide, more in boxes if starts.is_within(wide)]
                for end in range(most + 1):
                    if told.has(end) and end + change >= 0 and not any(more.has(end + change) for more in wider):
                        return False
        else:
            for starts, told in value[begin][1]:
                if told.has(0) and not any(starts.is_within(wide) and more.has(change) for wide, more in boxes):
                    return False
            for k, line in gains[begin]:
                for number in range(most + 1):
                    if k == 0 and line.has(-number) and not any(w.has(number) and e.has(change) for w, e in boxes):
                        return False
    return True


class Closed(unittest.TestCase):
    def test_ends_are_closed_and_bar_what_does_not_lead(self):
        for seed in range(60):
            house = random_house(seed, 5, 10)
            for start in (0, 2, FAR):
                place = seed % house.places
                paper = ends(house, place, start)
                self.assertIs(is_closed(house, place, start, paper), True)
                for goal in range(house.places):
                    for end in (0, 1, 3, FAR, FAR - 1, FAR + 1):
                        self.assertIs(bars(house, place, start, goal, end, paper),
                                      not leads(house, place, start, goal, end))

    def test_changed_ends(self):
        for seed in range(60):
            house, dice = random_house(seed, 4, 9), random.Random(seed)
            place, start = dice.randrange(house.places), dice.randint(0, 4)
            paper = ends(house, place, start)
            for number in range(8):
                goal = dice.randrange(house.places)
                point = Line.of([number])
                changed = paper[goal] - point if paper[goal].has(number) else paper[goal] | point
                for value in ({**paper, goal: changed}, {**paper, goal: paper[goal].shifted(1)}):
                    right = closed_by_steps(house, place, start, value, 40)
                    self.assertIs(is_closed(house, place, start, value), right)
                    self.assertIs(bars(house, place, start, goal, number, value), right and not value[goal].has(number))

    def test_random_lines(self):
        many = 0
        for seed in range(600):
            dice = random.Random(seed)
            house = random_house(seed, 3, 5)
            value = {place: random_line(dice) for place in range(house.places)}
            right = closed_by_steps(house, 0, 2, value, 40)
            many += right
            self.assertIs(is_closed(house, 0, 2, value), right)
        self.assertGreater(many, 20)

    def test_far_holes(self):
        whole = {0: COUNTS, 1: COUNTS}
        self.assertIs(is_closed(HOUSE, 0, 5, whole), True)
        self.assertIs(is_closed(HOUSE, 0, 5, {0: COUNTS - Line.of([FAR]), 1: COUNTS}), False)
        self.assertIs(is_closed(HOUSE, 0, 5, {0: Line([(0, FAR, 1, [0])]), 1: COUNTS}), True)
        self.assertIs(is_closed(HOUSE, 0, FAR, {0: Line([(0, FAR, 1, [0])]), 1: COUNTS}), True)
        self.assertIs(is_closed(HOUSE, 0, FAR + 1, {0: Line([(0, FAR, 1, [0])]), 1: COUNTS}), False)

    def test_numbers_below_nothing(self):
        self.assertIs(is_closed(HOUSE, 1, 0, {0: Line(), 1: COUNTS}), True)
        self.assertIs(is_closed(HOUSE, 1, 0, {0: Line.of([-1]), 1: COUNTS}), False)
        self.assertIs(is_closed(HOUSE, 1, 0, {0: Line([(None, -1, 1, [0])]), 1: COUNTS}), False)
        self.assertIs(is_closed(HOUSE, 1, 0, {0: Line(), 1: Line.every()}), False)

    def test_values_of_any_kind(self):
        right = {0: COUNTS, 1: COUNTS}
        wrong = [{False: COUNTS, True: COUNTS}, {0: COUNTS, True: COUNTS}, {0: COUNTS}, {1: COUNTS}, {**right, 2: COUNTS},
                 {0: COUNTS, 1: [(0, None, 1, [0])]}, {0: COUNTS, 1: None}, [COUNTS, COUNTS], (COUNTS, COUNTS),
                 {0: COUNTS, "1": COUNTS}, {0: COUNTS, 1: {0: COUNTS}}]
        for value in ANY + wrong:
            self.assertIs(is_closed(HOUSE, 0, 5, value), False)
            self.assertIs(bars(HOUSE, 0, 5, 0, 6, value), False)
        self.assertIs(is_closed(HOUSE, 0, 5, {1: COUNTS, 0: COUNTS}), True)

    def test_errors(self):
        value = ends(HOUSE, 0, 1)
        for odd in NO_COUNTS + [2]:
            for call in (lambda: is_closed(HOUSE, odd, None, None), lambda: bars(HOUSE, odd, None, None, None, None),
                         lambda: bars(HOUSE, 0, 1, odd, None, None), lambda: all_closed(HOUSE, odd),
                         lambda: is_all_closed(HOUSE, odd, None), lambda: bars_all(HOUSE, odd, None, None, None, None),
                         lambda: bars_all(HOUSE, 0, 1, odd, None, None), lambda: bars(HOUSE, 0, 1, value=value, end=0, goal=odd),
                         lambda: is_closed(house=HOUSE, place=odd, start=-1, value=value)):
                with self.assertRaises(InvalidPlace) as caught:
                    call()
                self.assertIs(caught.exception.value, odd)
        for odd in NO_COUNTS:
            for call in (lambda: is_closed(HOUSE, 0, odd, None), lambda: bars(HOUSE, 0, odd, None, None, None),
                         lambda: bars(HOUSE, 0, 1, 0, odd, None), lambda: bars_all(HOUSE, 0, odd, None, None, None),
                         lambda: bars_all(HOUSE, 0, 1, 0, odd, None), lambda: is_closed(HOUSE, 0, start=odd, value=3)):
                with self.assertRaises(InvalidMany) as caught:
                    call()
                self.assertIs(caught.exception.value, odd)


class AllClosed(unittest.TestCase):
    def test_bars_just_what_does_not_lead(self):
        for seed in range(80):
            house = random_house(seed, 5, 10)
            place = seed % house.places
            paper = all_closed(house, place)
            self.assertIs(is_all_closed(house, place, paper), True)
            self.assertEqual(list(paper), list(range(house.places)))
            for goal in range(house.places):
                self.assertEqual((paper[goal][0].__class__, len(paper[goal][1]) <= 40), (list, True))
                for start in (0, 1, 3, 10, FAR):
                    for end in (0, 1, 2, 7, FAR - 1, FAR, FAR + 2):
                        self.assertIs(bars_all(house, place, start, goal, end, paper),
                                      not leads(house, place, start, goal, end))

    def test_houses_of_five_places_never_have_too_many(self):
        for ups in range(1, 6):
            for downs in range(1, 6):
                house = ring_house(ups, downs, (ups + downs) % 2)
                for place in range(5):
                    paper = all_closed(house, place)
                    self.assertIs(is_all_closed(house, place, paper), True)
                    self.assertIs(bars_all(house, place, FAR, 0, 7, paper), not leads(house, place, FAR, 0, 7))
                    self.assertIs(is_closed(house, place, FAR, ends(house, place, FAR)), True)

    def test_great_houses(self):
        deeds = [(k, 1, (k + 1) % 5, "any") for k in range(5)] + [(0, 0, 5, "any"), (15, 1, 0, "empty"), (15, 0, 3, "empty")]
        deeds += [(5 + k, -1, 5 + (k + 1) % 11, "any") for k in range(11)]
        house = House(16, deeds)
        paper = all_closed(house, 0)
        self.assertIs(is_all_closed(house, 0, paper), True)
        for end in (3, FAR, FAR + 1, FAR + 2):
            self.assertIs(bars_all(house, 0, 4, 0, end, paper), not leads(house, 0, 4, 0, end))

    def test_changed_papers_against_steps(self):
        seen = {True: 0, False: 0}
        for seed in range(150):
            house, dice = random_house(seed, 3, 7), random.Random(seed)
            place = dice.randrange(house.places)
            for _ in range(6):
                paper = all_closed(house, place)
                self.spoil(paper, dice)
                right = all_closed_by_steps(house, place, paper, 40)
                seen[right] += 1
                self.assertIs(is_all_closed(house, place, paper), right, (seed, paper))
        self.assertGreater(min(seen.values()), 200)

    def spoil(self, paper, dice):
        """Changes one entry or one rectangle of the paper, by a number, a count, or as a whole."""
        goal = dice.choice([place for place in paper if paper[place][0] or paper[place][1]])
        entries, boxes = paper[goal]
        point = Line.of([dice.choice([-3, -2, -1, 0, 1, 2])])
        if entries and (not boxes or dice.random() < 0.5):
            at = dice.randrange(len(entries))
            k, line = entries[at]
            entries[at] = dice.choice([(k, line - point), (k, line | point), (k + 1, line), (max(0, k - 1), line)])
            if dice.random() < 0.2:
                del entries[at]
        elif boxes:
            at = dice.randrange(len(boxes))
            starts, told = boxes[at]
            point = Line.of([dice.randint(0, 3)])
            changed = dice.choice([(starts - point, told), (starts | point, told), (starts, told - point),
                                   (starts, told | point), (COUNTS, told), (COUNTS, COUNTS)])
            boxes[at] = changed if not changed[0].is_empty and not changed[1].is_empty else (starts, told)
            if dice.random() < 0.2:
                del boxes[at]

    def test_a_far_fault(self):
        paper = all_closed(HOUSE, 1)
        (k, line), = paper[1][0]
        self.assertEqual((k, line), (0, COUNTS))
        for spoilt in (line - Line.of([FAR]), Line([(0, FAR, 1, [0])])):
            self.assertIs(is_all_closed(HOUSE, 1, {**paper, 1: ([(0, spoilt)], [])}), False)
        paper = all_closed(HOUSE, 0)
        starts, told = paper[1][1][0]
        for spoilt in ((starts - Line.of([FAR]), told), (starts, told - Line.of([FAR]))):
            self.assertIs(is_all_closed(HOUSE, 0, {**paper, 1: (paper[1][0], [spoilt])}), False)

    def test_unions_of_rectangles(self):
        # Ends may be told by several rectangles together, starts of "empty" deeds by one alone.
        house = House(2, [(0, 1, 1, "any")])
        even, odd = Line([(0, None, 2, [0])]), Line([(0, None, 2, [1])])
        gains = {0: [(0, Line.of([0]))], 1: [(0, Line.of([1]))]}
        value = {0: (gains[0], [(Line.of([3]), COUNTS)]), 1: (gains[1], [(Line.of([3, 4]), even), (Line.of([3]), odd)])}
        self.assertIs(is_all_closed(house, 0, value), True)
        value[1] = (gains[1], [(Line.of([3, 4]), even), (Line.of([4]), odd)])
        self.assertIs(is_all_closed(house, 0, value), False)
        house = House(2, [(0, 1, 1, "empty")])
        gains = {0: [(0, Line.of([0]))], 1: []}
        two = [(Line.of([0, 3]), Line.of([1])), (Line.of([4]), Line.of([1]))]
        for starts, right in ((Line.of([3]), True), (Line.of([4]), True), (Line.of([3, 4]), False)):
            value = {0: (gains[0], [(starts, Line.of([0, 2]))]), 1: (gains[1], two)}
            self.assertIs(is_all_closed(house, 0, value), right)
            value = {0: (gains[0], [(starts, Line.of([2]))]), 1: (gains[1], two)}
            self.assertIs(is_all_closed(house, 0, value), True)
        for more, right in (([(0, Line.of([-3, -4]))], True), ([(0, Line.of([-5]))], False), ([(1, Line.of([-5]))], True),
                            ([(0, Line.of([5]))], True)):
            self.assertIs(is_all_closed(house, 0, {0: (gains[0] + more, []), 1: (gains[1], two)}), right)

    def test_what_bars_all_asks(self):
        gains = [(0, Line.of([0])), (2, Line.of([-1, 1]))]
        house = House(1, [])
        paper = {0: (gains, [(Line.of([7]), Line.of([5, 9]))])}
        self.assertIs(is_all_closed(house, 0, paper), True)
        for start, end, right in ((3, 3, False), (2, 1, True), (3, 2, False), (1, 2, True), (2, 3, False), (7, 5, False),
                                  (7, 9, False), (9, 7, True), (FAR, FAR, False), (FAR, FAR + 1, False), (FAR, 0, True)):
            self.assertIs(bars_all(house, 0, start, 0, end, paper), right)

    def test_tuples_and_forty_rectangles(self):
        house = House(2, [(0, 1, 1, "any")])
        paper = {0: (((0, Line.of([0])),), ()), 1: (((0, Line.of([1])),), ())}
        self.assertIs(is_all_closed(house, 0, paper), True)
        box = (Line.of([1]), Line.of([2]))
        self.assertIs(is_all_closed(house, 0, {**paper, 1: (paper[1][0], [box] * 40)}), True)
        self.assertIs(is_all_closed(house, 0, {**paper, 1: (paper[1][0], [box] * 41)}), False)
        self.assertIs(is_all_closed(house, 0, {**paper, 1: [paper[1][0], []]}), False)
        self.assertIs(is_all_closed(house, 0, {**paper, 1: (paper[1][0], [list(box)])}), False)
        self.assertIs(is_all_closed(house, 0, {**paper, 1: ([[0, Line.of([1])]], [])}), False)

    def test_values_of_any_kind(self):
        house = House(2, [(0, 1, 1, "any")])
        zero, one = ([(0, Line.of([0]))], []), ([(0, Line.of([1]))], [])
        self.assertIs(is_all_closed(house, 0, {0: zero, 1: one}), True)
        wrong = [{0: zero}, {1: one}, {0: zero, True: one}, {False: zero, True: one}, {0: zero, 1: one, 2: one}, [zero, one],
                 {0: zero, 1: one[0]}, {0: zero, 1: (one[0],)}, {0: zero, 1: one + ([],)}, {0: zero, 1: ([], [])},
                 {0: zero, 1: ([(False, Line.of([1]))], [])}, {0: zero, 1: ([(-1, Line.of([1]))], [])},
                 {0: zero, 1: ([(0, Line.of([1]), 0)], [])}, {0: zero, 1: ([(0, [(1, 1, 1, [0])])], [])},
                 {0: zero, 1: (one[0], None)}, {0: zero, 1: (one[0], [(COUNTS, Line())])},
                 {0: zero, 1: (one[0], [(Line(), COUNTS)])}, {0: zero, 1: (one[0], [(COUNTS, Line.of([-1, 1]))])},
                 {0: zero, 1: (one[0], [(Line.every(), COUNTS)])}, {0: zero, 1: (one[0], [(COUNTS, COUNTS, COUNTS)])}]
        for value in wrong + ANY:
            self.assertIs(is_all_closed(house, 0, value), False, value)
            self.assertIs(bars_all(house, 0, 5, 0, 6, value), False)

    def test_nothing_is_changed_and_all_is_new(self):
        paper = all_closed(HOUSE, 0)
        told = {goal: (list(paper[goal][0]), list(paper[goal][1])) for goal in paper}
        is_all_closed(HOUSE, 0, paper)
        bars_all(HOUSE, 0, 1, 1, 2, paper)
        self.assertEqual(paper, told)
        paper[0][0].clear()
        paper[1][1].clear()
        paper.clear()
        again = all_closed(HOUSE, 0)
        self.assertEqual({goal: again[goal][0] for goal in again}, {goal: extras(HOUSE, 0, goal) for goal in range(2)})
        self.assertEqual([len(again[goal][1]) for goal in again], [len(rectangles(HOUSE, 0, goal)) for goal in range(2)])
        self.assertIs(is_all_closed(house=HOUSE, place=0, value=again), True)

    def test_example(self):
        self.assertEqual([is_closed(HOUSE, 1, 5, {0: Line(), 1: COUNTS.part(5, None)}),
                          is_closed(HOUSE, 0, 5, {0: Line.of([5]), 1: Line()})], [True, False])
        paper, far = all_closed(HOUSE, 1), 10 ** 20
        self.assertEqual([is_all_closed(HOUSE, 1, paper), bars_all(HOUSE, 1, far, 1, far - 1, paper),
                          bars_all(HOUSE, 1, 3, 1, far, paper)], [True, True, False])


if __name__ == "__main__":
    unittest.main()
