"""Points 95, 97, 98: what is a name, a command, a deed of the desk, by the words alone."""

import unittest

from lonetill.commands import is_command, is_deed, is_name
from tests.odd import ANY, Strange

DEEDS = ["house a 2", "house abcdefgh 0", "house a1 999999999999999999999999999999", "put a 0 1 0 any 5", "put a 15 -1 99 empty 1000", "put a 0 0 0 empty 0",
         "take a 0", "take zz9 100000000000000000000", "price a 3 0", "price a 0 1000", "copy b a", "copy a a", "plain b a", "turn b a", "beside c a b", "beside c a a",
         "drop a", "claim up leads a 0 0 1 4", "claim a shut a 0 0 1 4", "claim up cheap a 0 0 1 4 17", "claim up dear a 0 0 1 4 0", "claim up under a 0 0 1 4 5",
         "claim up over a 0 999999999999999999999999999999 1 4 5", "claim h holds a some n below n m -3", "claim h fails a in n 0 - 2 1", "forget up"]
OTHERS = ["undo", "redo", "state up", "states", "claimed up", "deeds a", "names", "leads a 0 0 1 4", "cost a 0 0 1 4", "roof a 0 0 1 4", "gain a 0 1 -7", "gain a 0 1 7",
          "gain a 0 1 -999999999999999999999999999999", "first a 0 1 4", "least a 0 2 0", "most a 0 2 0", "ask a leads 0 n 15 m", "ask a in m - - 1 0", "ask a in n -5 -2 3 2",
          "ask a below m n 999999999999999999999999999999", "ask a not leads 0 n 0 m", "ask a and below n m 0 or in n 0 5 1 0 leads 1 n 1 n",
          "ask a all n some m not not not not below n m 1", "ask a not not not not not not below n m 1", "ask a some n some n some n some n some n not in n 2 2 1 0"]


class Commands(unittest.TestCase):
    def test_names(self):
        for name in ("a", "z", "a1", "abcdefgh", "a0000000", "undo", "n"):
            self.assertIs(is_name(name), True)
        for value in ANY + ["", "1", "1a", "abcdefghi", "A", "aB", "a b", " a", "a ", "a-b", "a_b", "a\n", "-", Strange(), ["a"], ("a",), b"a"]:
            if not (isinstance(value, str) and value in ("any", "line")):
                self.assertIs(is_name(value), False, value)
        self.assertIs(is_name(value="any"), True)

    def test_each_command(self):
        for line in DEEDS:
            self.assertEqual((is_command(line), is_deed(line)), (True, True), line)
        for line in OTHERS:
            self.assertEqual((is_command(value=line), is_deed(value=line)), (True, False), line)

    def test_values_of_any_kind(self):
        for value in ANY + ["", " ", "\n", "x", Strange(), ["undo"], ("undo",), b"undo", ["put", "a"], {"undo": 1}]:
            self.assertEqual((is_command(value), is_deed(value)), (False, False))

    def test_words_left_out_twice_spoilt(self):
        for line in DEEDS + OTHERS:
            words = line.split(" ")
            for at in range(len(words)):
                ahead, behind = words[:at], words[at + 1:]
                left_out, twice = " ".join(ahead + behind), " ".join(ahead + [words[at]] * 2 + behind)
                # A not less, a rest that is a low or high end: few such lines are commands again.
                if words[at] not in ("not", "some", "all", "n") and "ask" not in words and "holds" not in words and "fails" not in words:
                    self.assertIs(is_command(left_out), False, left_out)
                    self.assertIs(is_command(twice), False, twice)
                for word in ("", "?", words[at] + " ", " " + words[at], words[at] + "\n", words[at].upper() + "A", "00", "+1", "1.0", "--1"):
                    spoilt = " ".join(ahead + [word] + behind)
                    self.assertEqual((is_command(spoilt), is_deed(spoilt)), (False, False), spoilt)

    def test_blanks(self):
        for line in DEEDS + OTHERS:
            for spoilt in (line + " ", " " + line, line + "\n", line.replace(" ", "  ", 1) + ("" if " " in line else " "), line.upper(), line + " 0 0 0 0 0 0 0", line + " q"):
                self.assertIs(is_command(spoilt), False, spoilt)

    def test_kinds_of_words(self):
        for line in ("house a -1", "house a 02", "house a two", "house A 2", "house 1a 2", "house abcdefghi 2", "put a 0 2 0 any 5", "put a 0 -2 0 any 5", "put a 0 +1 0 any 5",
                     "put a 0 1 0 all 5", "put a 0 1 0 any 1001", "put a 0 1 0 any -1", "put a 0 1 0 any 05", "put a -1 1 0 any 5", "put a 0 -0 0 any 5", "take a -1", "take a -",
                     "price a 0 1001", "price a -1 5", "copy b 1a", "beside a b", "claim up told a 0 0 0 0", "claim 9 leads a 0 0 0 0", "claim up cheap a 0 0 0 0",
                     "claim up leads a 0 0 0 0 0", "claim up leads a 0 -1 0 0", "claim up unlike a 0 0 0 0", "claim up holds a", "claim up holds", "claim up", "claim", "gain a 0 1 -0",
                     "gain a 0 1 - 7", "gain a 0 -1 7", "state 9", "state", "states a", "names a", "undo 1", "redo redo", "leads a 0 0 0", "leads a 0 0 0 -1", "most a 0 0", "ask a",
                     "ask a leads 16 n 0 m", "ask a leads 0 n 0", "ask a leads 0 x 0 m", "ask a in n 5 2 1 0", "ask a in n 0 5 0 0", "ask a in n 0 5 2521 0", "ask a in n 0 5 2 2",
                     "ask a in n 0 5 4 1 2", "ask a in n 0 5 4", "ask a in x 0 5 4 1", "ask a in n -- 5 4 1", "ask a below n m -0", "ask a below n m", "ask a some below n m 1",
                     "ask a some x below n m 1", "ask a not", "ask a some", "ask a all n", "ask a not all", "ask a in", "ask a in n", "ask a leads", "ask a below", "ask a and", "ask a or not", "ask a and below n m 1", "ask a and below n m 1 below n m 1 below n m 1", "ask a below n m 1 below n m 1",
                     "ask a not not not not not not not below n m 1", "ask a some n some n some n some n some n some n below n m 1",
                     "ask a some n some n some n some n some n not not below n m 1", "ask a xor below n m 1 below n m 1", "ask a house b 2"):
            self.assertEqual((is_command(line), is_deed(line)), (False, False), line)

    def test_digits(self):
        many, more = "9" * 30, "1" + "0" * 30
        for line in ("house a {}", "take a {}", "price a {} 5", "leads a {} 0 0 0", "leads a 0 {} 0 0", "leads a 0 0 {} 0", "leads a 0 0 0 {}", "cost a 0 {} 0 0", "roof a 0 0 0 {}",
                     "gain a 0 0 {}", "gain a 0 0 -{}", "first a 0 0 {}", "least a 0 {} 0", "claim up cheap a 0 0 0 0 {}", "claim up under a 0 0 0 0 {}", "ask a below n m {}",
                     "ask a below n m -{}", "ask a in n {} - 1 0", "ask a in n -{} 4 1 0", "claim up holds a in n - {} 1 0"):
            self.assertIs(is_command(line.format(many)), True, line)
            self.assertIs(is_command(line.format(more)), False, line)
        self.assertIs(is_command("ask a " + "not " * 990 + "below n m 1"), False)

    def test_example(self):
        self.assertEqual([is_command("put a 0 1 0 any 5"), is_command("put a 0 2 0 any 5"), is_deed("undo"), is_command("ask a some n below n m -3"), is_command("state 9")],
                         [True, False, False, True, False])


if __name__ == "__main__":
    unittest.main()
