"""Points 91, 92: things written and read, and the first wrong line of texts."""

import random
import unittest

from lonetill.errors import InvalidText, InvalidThing
from lonetill.families import Least
from lonetill.forms import read
from lonetill.grids import Grid
from lonetill.houses import House
from lonetill.lines import Line
from lonetill.readers import Reader
from lonetill.texts import written
from tests.odd import ANY, Strange
from tests.pairs import random_line
from tests.reading import random_changes, random_reader
from tests.test_under import laps_by_dice
from tests.walked import random_house

FAR = 10 ** 29
HOUSE = "house 2\ndeed 0 1 1 any\ndeed 1 0 0 empty\n"
READER = "reader 3\nletter a 1\nletter c -1\nrow 0 a 1\nrow 0 c 2\nrow 2 a 0\ngood 0 any\ngood 2 some\n"
GOING = "going\ndo 0\nlaps 5\ndo 1\nlaps 0\nend\nend\ndo 12\n"
LINE = "line\nstretch - -3 2 0\nstretch 4 9 5 0 2 3\nstretch 12 - 1 0\n"
SAYING = "some n\nand\nnot\nleads 0 n 15 m\nor\nin m 2\nstretch 0 5 1 0\nstretch 9 - 4 1 3\nbelow m n -7\n"


def random_saying(dice, depth):
    """A saying that is not deeper than told."""
    kinds = ["leads", "in", "below"] + (["and", "or", "some", "all", "not", "not"] if depth > 1 else ["notleaf"])
    kind = dice.choice(kinds)
    if kind == "leads":
        return (kind, dice.randrange(16), dice.choice("nm"), dice.randrange(16), dice.choice("nm"))
    if kind == "in":
        return (kind, dice.choice("nm"), random_line(dice, 20, 3, (1, 2, 3, 6)) or Line())
    if kind == "below":
        return (kind, dice.choice("nm"), dice.choice("nm"), dice.choice([0, -3, 12, FAR, -FAR]))
    if kind == "notleaf":
        return ("not", ("below", "n", "m", dice.randint(-3, 3)))
    if kind in ("and", "or"):
        return (kind, random_saying(dice, depth - 1), random_saying(dice, depth - 1))
    return (kind, random_saying(dice, depth - 1)) if kind == "not" else (kind, dice.choice("nm"), random_saying(dice, depth - 1))


class There(unittest.TestCase):
    def test_houses(self):
        for seed in range(60):
            house = random_house(seed, 5, 12)
            self.assertEqual(read(written(house)), house)
        self.assertEqual((written(House(16, [])), read("house 16\n")), ("house 16\n", House(16, [])))
        self.assertEqual(written(read(HOUSE)), HOUSE)
        full = House(4, [(a, change, b, "any") for a in range(4) for b in range(4) for change in (-1, 0, 1)] + [(a, 1, b, "empty") for a in range(3) for b in range(4)])
        self.assertEqual((len(full), read(written(full))), (60, full))

    def test_lines(self):
        for seed in range(80):
            line = random_line(random.Random(seed), 40, 4, (1, 2, 3, 5, 6, 10)) or Line.counts()
            text = written(line)
            self.assertEqual(read(text), line)
            self.assertEqual(text.split("\n")[0], "line")
            self.assertTrue(all(row.startswith("stretch ") for row in text.split("\n")[1:-1]))
        self.assertEqual((written(Line()), read("line\n")), ("line\n", Line()))
        self.assertEqual(read("line\nstretch 5 9 1 0\nstretch 0 7 2 1\nstretch 5 9 1 0\nstretch 1 1 2 0\n"), Line.of([1, 3, 5, 6, 7, 8, 9]))
        self.assertEqual(read(LINE), Line([(None, -3, 2, [0]), (4, 9, 5, [0, 2, 3]), (12, None, 1, [0])]))
        far = Line([(FAR, FAR + 10, 3, [1]), (-FAR, -FAR, 1, [0])])
        self.assertEqual(read(written(far)), far)

    def test_four_hundred_stretches(self):
        rows = "".join(f"stretch {3 * k} {3 * k} 1 0\n" for k in range(400))
        self.assertEqual(read("line\n" + rows), Line([(0, 1197, 3, [0])]))
        self.check_wrong("line\n" + rows + "stretch 0 0 1 0\n", 402)
        self.assertEqual(read(f"in n 400\n{rows}")[2].many_all(), 400)
        self.check_wrong(f"in n 401\n{rows}stretch 0 0 1 0\n", 1)

    def test_goings(self):
        for seed in range(100):
            going = laps_by_dice(random.Random(seed), 4)
            self.assertEqual(read(written(going)), going)
        self.assertEqual((written([]), written(()), read("going\n")), ("going\n", "going\n", []))
        self.assertEqual(read(GOING), [0, ([1, ([], 0)], 5), 12])
        self.assertEqual(written((0, ((1, ((), 0)), 5), 12)), GOING)
        deep = [([([([FAR], 2)], 3)], FAR)]
        self.assertEqual((read(written(deep)), written(deep).count("laps")), (deep, 3))

    def test_readers(self):
        for seed in range(60):
            dice = random.Random(seed)
            reader = random_reader(dice, dice.randint(1, 16), random_changes(dice))
            self.assertEqual(read(written(reader)), reader)
        self.assertEqual((written(read(READER)), read(READER).letters), (READER, "ac"))
        self.assertEqual(read("reader 16\nletter z 0\n"), Reader(16, {"z": 0}, [], {}))

    def test_sayings(self):
        for seed in range(200):
            saying = random_saying(random.Random(seed), 1 + seed % 6)
            self.assertEqual(read(written(saying)), saying)
        saying = read(SAYING)
        self.assertEqual(saying[:2] + (saying[2][:2], saying[2][2][2]), ("some", "n", ("and", ("not", ("leads", 0, "n", 15, "m"))), ("below", "m", "n", -7)))
        self.assertEqual(saying[2][2][1], ("in", "m", Line([(0, 5, 1, [0]), (9, None, 4, [1, 3])])))
        self.assertEqual(read("in m 0\n"), ("in", "m", Line()))

    def test_other_things(self):
        bad = ("and", ("below", "n", "m", 0))
        deep = ("not", ("not", ("not", ("not", ("not", ("not", ("not", ("below", "n", "n", 0))))))))
        odd = [Grid(), Least(), {}, {0: 1}, "house 2\n", None, True, 0, 5, [-1], [True], [None], [[0]], [([0], -1)], [([0], True)], [([0],)], ([0], 5), bad, deep,
               ("leads", 16, "n", 0, "m"), ("below", "n", "x", 0), ("in", "n", []), [("below", "n", "m", 0)], [([([([([0], 1)], 1)], 1)], 1)], House, Strange()]
        for value in odd + [value for value in ANY if not isinstance(value, (Line, House, list, tuple))]:
            with self.assertRaises(InvalidThing) as caught:
                written(value)
            self.assertIs(caught.exception.value, value)
        self.assertEqual(written(thing=([0], 5)[:0]), "going\n")

    def check_wrong(self, text, line):
        with self.assertRaises(InvalidText) as caught:
            read(text)
        self.assertEqual(caught.exception.line, line, text)

    def test_no_strings(self):
        for value in [value for value in ANY if not isinstance(value, str)] + [Strange(), b"house 1\n", ["house 1\n"]]:
            self.check_wrong(value, 0)
        self.check_wrong("", 1)
        with self.assertRaises(InvalidText):
            read(text="x")

    def test_first_lines(self):
        for text in ("\n", " \n", "x\n", "house\n", "house 0\n", "house 17\n", "house 02\n", "house -1\n", "house 2 \n", " house 2\n", "house  2\n", "House 2\n",
                     "house 2", "house two\n", "line \n", "lines\n", "going 1\n", "reader 0\n", "reader 17\n", "reader\n", "stretch 0 1 1 0\n", "do 0\n", "end\n",
                     "deed 0 1 0 any\n", "leads 0 n 16 m\n", "leads 0 n 1\n", "leads 00 n 1 m\n", "leads 0 x 1 m\n", "below n m\n", "below n m -0\n", "below n m +1\n",
                     "below n m 01\n", "not x\n", "and n\n", "some\n", "some x\n", "all n m\n", "in n\n", "in n -1\n", "in x 1\n", "in n 01\n", "1\n", "-\n"):
            self.check_wrong(text, 1)

    def test_wrong_lines(self):
        deeds = "".join(f"deed {a} {change} {b} any\n" for a in range(5) for b in range(5) for change in (0, 1))
        for text, line in (("house 2\ndeed 0 1 2 any\n", 2), ("house 2\ndeed 0 1 1 any\ndeed 0 1 1 any\n", 3), ("house 2\ndeed 0 2 1 any\n", 2),
                           ("house 2\ndeed 0 -1 1 empty\n", 2), ("house 2\ndeed 0 1 1 all\n", 2), ("house 2\ndeed 0 1 1 any", 2), ("house 2\n\n", 2),
                           ("house 2\ndeed 0 1 1  any\n", 2), ("house 2\ndeed 0 1 1 any \n", 2), ("house 2\ndeed 0 -0 1 any\n", 2), ("house 2\ndeed 0 1 any\n", 2),
                           ("house 2\ndeed 0 1 1 any\nhouse 2\n", 3), ("house 5\n" + deeds + deeds.replace(" 0 ", " -1 ", 1), 52),
                           ("house 16\n" + "".join(f"deed {k} 1 {j} any\n" for k in range(16) for j in range(4)), 62),
                           ("line\nstretch 5 3 1 0\n", 2), ("line\nstretch 0 3 0 0\n", 2), ("line\nstretch 0 3 2521 0\n", 2), ("line\nstretch 0 3 4 4\n", 2),
                           ("line\nstretch 0 3 4 2 1\n", 2), ("line\nstretch 0 3 4 1 1\n", 2), ("line\nstretch 0 3 4\n", 2), ("line\nstretch 0 3 4 -1\n", 2),
                           ("line\nstretch 0 - 4 1\nstretch - 0\n", 3), ("line\nstretch -0 3 1 0\n", 2), ("line\nstretch 0 03 1 0\n", 2), ("line\nline\n", 2),
                           ("line\nstretch 0 3 1 0", 2), ("line\nstretch 0 3 1 0\n\n", 3),
                           ("going\ndo 1\nend\n", 3), ("going\nlaps 2\n", 3), ("going\nlaps 2\ndo 1\n", 4), ("going\nlaps 2\nlaps 2\nlaps 2\nlaps 2\n", 5),
                           ("going\nlaps 2\nend\nend\n", 4), ("going\ndo -1\n", 2), ("going\ndo 01\n", 2), ("going\nlaps\n", 2), ("going\ndo\n", 2), ("going\nlaps 2\nend 1\n", 3),
                           ("going\nlaps -1\nend\n", 2), ("going\ndo 1 2\n", 2), ("going\ndo 1", 2), ("going\nlaps 2\nend", 3), ("going\nlaps 2\nlaps 2\nlaps 2\nend\nend\n", 7)):
            self.check_wrong(text, line)
        self.assertEqual(read("going\nlaps 2\nlaps 2\nlaps 2\nend\nend\nend\n"), [([([([], 2)], 2)], 2)])

    def test_wrong_lines_of_readers(self):
        for text, line in (("reader 3\n", 2), ("reader 3\nrow 0 a 1\n", 2), ("reader 3\nletter a 2\n", 2), ("reader 3\nletter A 1\n", 2), ("reader 3\nletter ab 1\n", 2),
                           ("reader 3\nletter b 1\nletter a 1\n", 3), ("reader 3\nletter a 1\nletter a 0\n", 3),
                           ("reader 3\nletter a 1\nletter b 1\nletter c 1\nletter d 1\n", 5), ("reader 3\nletter a 1\nrow 0 b 1\n", 3), ("reader 3\nletter a 1\nrow 3 a 1\n", 3),
                           ("reader 3\nletter a 1\nrow 0 a 3\n", 3), ("reader 3\nletter a 1\nrow 1 a 1\nrow 0 a 1\n", 4), ("reader 3\nletter a 1\nrow 1 a 1\nrow 1 a 2\n", 4),
                           ("reader 3\nletter a 1\nrow 1 a 1\nletter b 1\n", 4), ("reader 3\nletter a 1\ngood 0 any\nrow 1 a 1\n", 4), ("reader 3\nletter a 1\ngood 3 any\n", 3),
                           ("reader 3\nletter a 1\ngood 1 any\ngood 0 any\n", 4), ("reader 3\nletter a 1\ngood 1 any\ngood 1 some\n", 4), ("reader 3\nletter a 1\ngood 1 all\n", 3),
                           ("reader 3\nletter a 1\ngood 1 any\nletter b 0\n", 4), ("reader 3\nletter a 1\nletter b 0\nrow 0 b 1\nrow 0 a 1\n", 5), ("reader 3\nletter a +1\n", 2),
                           ("reader 3\nletter a 1\nrow 0 a 01\n", 3), ("reader 3\nletter a 1", 2), ("reader 3\nletter a 1\n\n", 3), ("reader 3\nletter a 1\nrow 0 a\n", 3)):
            self.check_wrong(text, line)

    def test_wrong_lines_of_sayings(self):
        for text, line in (("not\n", 2), ("and\n", 2), ("and\nbelow n m 0\n", 3), ("or\nbelow n m 0\nbelow n m 0\nbelow n m 0\n", 4), ("some n\n", 2), ("below n m 0\nbelow n m 0\n", 2),
                           ("in n 2\nstretch 0 1 1 0\n", 3), ("in n 1\nstretch 0 1 1 0\nstretch 0 1 1 0\n", 3), ("in n 1\nbelow n m 0\n", 2), ("in n 0\nstretch 0 1 1 0\n", 2),
                           ("not\nline\n", 2), ("not\nhouse 2\n", 2), ("and\nin n 1\nstretch 0 1 1 1\n", 3), ("not\nnot\nnot\nnot\nnot\nnot\nnot\n", 7),
                           ("some n\nsome n\nsome n\nsome n\nsome n\nsome n\n", 6), ("some n\nsome n\nsome n\nsome n\nsome n\nand\n", 6),
                           ("some n\nsome n\nsome n\nsome n\nsome n\nnot\nnot\n", 7), ("some n\nsome n\nsome n\nsome n\nsome n\nnot\nsome n\n", 7), ("not\nbelow n m 0", 2)):
            self.check_wrong(text, line)
        self.assertEqual(read("not\n" * 6 + "below n m 0\n")[1][1][1][1][1], ("not", ("below", "n", "m", 0)))
        self.assertEqual(read("some n\n" * 5 + "not\nbelow n m 0\n")[2][2][2][2][2], ("not", ("below", "n", "m", 0)))

    def first_wrong(self, text):
        try:
            read(text)
        except InvalidText as error:
            return error.line
        return None

    def test_texts_with_one_line_spoilt(self):
        for text in (HOUSE, READER, GOING, LINE, SAYING):
            rows = text.split("\n")[:-1]
            for at in range(len(rows)):
                for row in ("", "x", rows[at] + " ", rows[at].replace(" ", "  ", 1) + " ", rows[at].upper(), rows[at] + " 0 0 0 0 q"):
                    self.check_wrong("".join(f"{line}\n" for line in rows[:at] + [row] + rows[at + 1:]), at + 1)
                    self.check_wrong("".join(f"{line}\n" for line in rows[:at] + [row] + rows[at:]), at + 1)
                self.check_wrong("\n".join(rows[:at + 1]), at + 1)
                cut = "".join(f"{line}\n" for line in rows[:at + 1])
                self.assertIn(self.first_wrong(cut), (None, at + 2))
                if at > 0:
                    self.check_wrong("".join(f"{line}\n" for line in rows[:at] + [rows[0]] + rows[at:]) if rows[0] != "some n" else "x", at + 1 if rows[0] != "some n" else 1)

    def test_lines_doubled_exchanged_left_out(self):
        # A wrong line is the first one that what stands ahead of it cannot have behind it: so what follows it has no effect.
        for text in (HOUSE, READER, GOING, LINE, SAYING):
            rows = text.split("\n")[:-1]
            changed = [rows[:at] + [rows[at]] + rows[at:] for at in range(len(rows))] + [rows[:at] + rows[at + 1:] for at in range(len(rows))]
            changed += [rows[:at] + [rows[at + 1], rows[at]] + rows[at + 2:] for at in range(len(rows) - 1)]
            for spoilt in changed:
                wrong = self.first_wrong("".join(f"{row}\n" for row in spoilt))
                if wrong is None:
                    again = "".join(f"{row}\n" for row in spoilt)
                    self.assertIsNone(self.first_wrong(written(read(again))))
                    continue
                self.assertLessEqual(wrong, len(spoilt) + 1)
                if wrong <= len(spoilt):
                    for tail in ([], ["x"], rows):
                        cut = "".join(f"{row}\n" for row in spoilt[:wrong] + tail)
                        self.assertEqual(self.first_wrong(cut), wrong)
                    self.assertIn(self.first_wrong("".join(f"{row}\n" for row in spoilt[:wrong - 1])), (None, wrong))

    def test_results_are_new(self):
        read(GOING)[1][0].clear()
        self.assertEqual(read(GOING), [0, ([1, ([], 0)], 5), 12])

    def test_examples(self):
        self.assertEqual([written(House(2, [(0, 1, 1, "any"), (1, 0, 0, "empty")])), written([0, ([1, 2], 5)]), written(("some", "n", ("below", "n", "m", -1)))],
                         ["house 2\ndeed 0 1 1 any\ndeed 1 0 0 empty\n", "going\ndo 0\nlaps 5\ndo 1\ndo 2\nend\n", "some n\nbelow n m -1\n"])
        self.assertEqual([read("going\nlaps 3\ndo 4\nend\n"), read("line\nstretch 0 - 2 1\n") == Line([(0, None, 2, [1])]), len(read("house 1\ndeed 0 1 0 any\n"))],
                         [[([4], 3)], True, 1])


if __name__ == "__main__":
    unittest.main()
