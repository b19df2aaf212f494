"""Points 95 to 98: the desk, its commands, papers, copies and trials."""

import random
import unittest

from lonetill.claims import is_true, paper_of, contrary
from lonetill.commands import is_deed
from lonetill.desk import Desk, Trial, tried
from lonetill.empties import leads
from lonetill.ends import ends, starts
from lonetill.errors import CommandFailed, InvalidClaim, InvalidCommand, InvalidDeed, InvalidLines, InvalidPaper, InvalidPlace, InvalidPlaces
from lonetill.errors import InvalidPosition, InvalidSaying, LabelTaken, NameTaken, NothingToRedo, NothingToUndo, NotPlain, TooMany
from lonetill.errors import UnknownLabel, UnknownName
from lonetill.gains import least_start
from lonetill.houses import House
from lonetill.least import least_price
from lonetill.lines import Line
from lonetill.roofs import least_roof
from tests.odd import ANY, Strange
from tests.test_commands import DEEDS, OTHERS

FAR = 10 ** 29


def desk_of(*lines):
    """A desk that has done these commands."""
    desk = Desk()
    desk.do_all(*lines)
    return desk


STALL = ("house a 3", "put a 0 1 1 any 1", "put a 1 1 0 any 2", "put a 0 -1 2 any 3", "put a 2 -1 2 any 1", "put a 2 0 0 empty 5")


def kept(desk):
    """All that can be asked of a desk."""
    labels = desk.labels
    out = [desk.names, labels, len(desk), desk.lines(), desk.do("states"), [desk[name] for name in desk.names]]
    out += [[desk.do(f"deeds {name}") for name in desk.names], [desk.do(f"claimed {label}") for label in labels], [desk.fits(label) for label in labels]]
    other = desk.copy()
    while True:
        try:
            out.append(other.do("redo"))
        except NothingToRedo:
            return out


class Answers(unittest.TestCase):
    def test_houses(self):
        desk = Desk()
        self.assertEqual([desk.names, desk.labels, len(desk), desk.do("names"), desk.do("states")], [[], [], 0, "-", "-"])
        self.assertEqual([desk.do(line) for line in STALL], ["-"] * 6)
        house, prices = desk["a"]
        self.assertEqual((house.deeds()[4], len(house), house.places, prices), ((2, 0, 0, "empty"), 5, 3, [1, 2, 3, 1, 5]))
        self.assertEqual(desk.do("deeds a"), "0 1 1 any 1, 1 1 0 any 2, 0 -1 2 any 3, 2 -1 2 any 1, 2 0 0 empty 5")
        self.assertEqual(desk.do_all("copy b a", "plain c a", "turn d c", "house e 1", "beside f e c", "beside g e e", "names"), ["-"] * 6 + ["a b c d e f g"])
        self.assertEqual(desk["b"], desk["a"])
        self.assertEqual((desk["c"], desk["d"][0]), ((house.plain(), [1, 2, 3, 1]), house.plain().turned()))
        self.assertEqual((desk["f"], desk["g"]), ((House(1, []).beside(house.plain()), [1, 2, 3, 1]), (House(2, []), [])))
        self.assertEqual(desk["d"][1], [1, 2, 3, 1])
        self.assertEqual(desk.do_all("take a 1", "price a 2 999", "deeds a", "deeds e"), ["-", "-", "0 1 1 any 1, 0 -1 2 any 3, 2 -1 2 any 999, 2 0 0 empty 5", "-"])
        self.assertEqual(desk.do_all("drop a", "names", "house a 16", "names"), ["-", "b c d e f g", "-", "a b c d e f g"])
        self.assertEqual(desk.do("beside h f c"), "-")
        self.assertEqual(desk["h"][1], [1, 2, 3, 1, 1, 2, 3, 1])

    def test_questions(self):
        desk = desk_of(*STALL)
        for line, answer in (("leads a 0 5 0 0", "yes"), ("leads a 0 0 0 3", "no"), ("cost a 0 5 0 0", "12"), ("cost a 0 0 0 3", "none"), ("cost a 0 3 0 3", "0"),
                             ("roof a 0 5 0 0", "5"), ("roof a 0 0 0 3", "none"), (f"roof a 0 {FAR} 0 {FAR - 2}", str(FAR)), ("gain a 0 1 1", "0"), ("gain a 0 2 -4", "4"),
                             ("gain a 0 0 -1", "none"), ("gain a 1 2 0", "0"), ("first a 0 0 2", "0"), ("first a 0 2 0", "0"), ("first a 0 0 3", "1"),
                             ("least a 0 5 0", "0"), ("least a 0 5 1", "1"), ("most a 0 5 0", "endless"), ("most a 2 5 2", "endless"),
                             ("ask a all n some m and leads 0 n 0 m not below m n 0", "yes"), ("ask a some n all m leads 0 n 0 m", "yes"), ("ask a all n all m leads 0 n 0 m", "no"),
                             ("ask a all m leads 0 n 0 m", "1"), ("ask a not leads 0 n 0 m", "0 1"), ("ask a in m 7 - 5 1", "11"), ("ask a in n - -2 1 0", "none"),
                             ("ask a and in n 4 4 1 0 in m - 9 6 1", "4 1"), ("ask a below n n -1", "none"), ("ask a below n n 0", "0"),
                             ("ask a and below n m 0 in m - -1 1 0", "none")):
            self.assertEqual(desk(line), answer, line)
        falls = desk_of("house b 2", "put b 0 -1 0 any 1", "put b 0 0 1 any 1")
        self.assertEqual([falls.do(f"{word} b 0 {FAR} 1") for word in ("least", "most")], ["0", str(FAR)])
        self.assertEqual([falls.do(line) for line in ("least b 1 4 1", "most b 1 4 1", "least b 1 4 0", "most b 1 4 0", "first b 0 1 9", "first b 1 0 9", "first b 1 1 9")],
                         ["4", "4", "none", "none", "9", "none", "9"])

    def test_answers_against_the_functions(self):
        desk = desk_of(*STALL)
        house, prices = desk["a"]
        tell = {True: "yes", False: "no", None: "none"}
        for place in range(3):
            for goal in range(3):
                for start in (0, 1, 4, FAR):
                    line = ends(house, place, start)[goal]
                    self.assertEqual(desk(f"least a {place} {start} {goal}"), str(line.least()) if not line.is_empty else "none")
                    self.assertEqual(desk(f"most a {place} {start} {goal}"), "none" if line.is_empty else "endless" if line.greatest() is None else str(line.greatest()))
                    self.assertEqual(desk(f"first a {place} {goal} {start}"), str(starts(house, goal, start)[place].least()).lower())
                    for end in (0, 2, 5, FAR + 1):
                        stands = f"{place} {start} {goal} {end}"
                        self.assertEqual(desk(f"leads a {stands}"), tell[leads(house, place, start, goal, end)])
                        self.assertEqual(desk(f"cost a {stands}"), str(least_price(house, prices, place, start, goal, end)).lower())
                        self.assertEqual(desk(f"roof a {stands}"), str(least_roof(house, place, start, goal, end)).lower())
                for gain in (-7, -1, 0, 1, 2, FAR, -FAR):
                    self.assertEqual(desk(f"gain a {place} {goal} {gain}"), str(least_start(house, place, goal, gain)).lower())

    def test_states_and_changes(self):
        desk = desk_of("house a 2", "put a 0 1 0 any 3")
        self.assertEqual(desk.do_all("claim up leads a 0 0 1 4", "claim all holds a some m leads 0 m 1 m", "claim cost cheap a 0 0 1 4 17", "claim dear dear a 0 0 1 4 16",
                                     "claim over over a 0 0 1 4 4", "claim shut shut a 0 0 0 9"),
                         ["up false", "all false", "cost false", "dear true", "over true", "shut false"])
        self.assertEqual(desk.do("states"), "all false, cost false, dear true, over true, shut false, up false")
        self.assertEqual(desk.do("put a 0 -1 1 any 2"), "all true, cost true, up true")
        self.assertEqual([desk.do("price a 0 4"), desk.do("price a 0 3"), desk.do("price a 0 2"), desk.do("price a 0 3")], ["cost false", "cost true", "dear false", "dear true"])
        self.assertEqual(desk.do("drop a"), "all gone, cost gone, dear gone, over gone, shut gone, up gone")
        self.assertEqual([desk.do("state up"), desk.do("state shut"), desk.claim_of("up")], ["gone", "gone", None])
        self.assertEqual(desk.do("house a 1"), "shut true")
        self.assertEqual(desk.do("states"), "all gone, cost gone, dear gone, over gone, shut true, up gone")
        self.assertEqual(desk.do_all("drop a", "house a 2", "put a 0 0 1 any 0", "put a 0 1 1 empty 1"),
                         ["shut gone", "all false, cost false, dear true, over true, shut true, up false", "all true", "-"])
        self.assertEqual([desk.do("forget all"), desk.do("forget cost"), desk.do("states")], ["-", "-", "dear true, over true, shut true, up false"])
        self.assertEqual(desk.labels, ["dear", "over", "shut", "up"])

    def test_other_houses_leave_states(self):
        desk = desk_of("house a 1", "house b 1", "claim x shut a 0 0 0 1", "claim y shut b 0 0 0 1", "claim b leads b 0 0 0 1")
        self.assertEqual([desk.do("put b 0 1 0 any 0"), desk.do("put a 0 1 0 any 0"), desk.do("drop b"), desk.do("copy b a")],
                         ["b true, y false", "x false", "b gone, y gone", "b true, y false"])
        self.assertEqual(desk.do("claimed b"), "leads b 0 0 0 1")

    def test_claims(self):
        desk = desk_of(*STALL)
        for words, claim in (("leads a 0 5 0 2", ("leads", 0, 5, 0, 2)), ("shut a 0 5 0 2", ("shut", 0, 5, 0, 2)), ("cheap a 0 5 0 2 9", ("cheap", 0, 5, 0, 2, 9)),
                             ("dear a 0 5 0 2 9", ("dear", 0, 5, 0, 2, 9)), (f"under a 1 5 2 2 {FAR}", ("under", 1, 5, 2, 2, FAR)), ("over a 0 5 0 2 0", ("over", 0, 5, 0, 2, 0)),
                             ("holds a some n in n 4 - 3 1", ("holds", ("some", "n", ("in", "n", Line([(4, None, 3, [1])]))))),
                             ("fails a not some n not below n n 3", ("fails", ("not", ("some", "n", ("not", ("below", "n", "n", 3))))))):
            answer = desk.do(f"claim x {words}")
            house, prices = desk["a"]
            told = (claim[0], house) + (([1, 2, 3, 1, 5],) if claim[0] in ("cheap", "dear") else ()) + claim[1:]
            self.assertEqual((desk.claim_of("x"), desk.do("claimed x")), (told, words))
            self.assertEqual(answer, "x true" if is_true(told) else "x false")
            self.assertEqual(desk.do("forget x"), "-")
        desk.do_all("claim x dear a 0 5 0 2 9", "price a 0 77")
        desk.claim_of("x")[2].clear()
        self.assertEqual(desk.claim_of(label="x")[2], [77, 2, 3, 1, 5])
        for odd in ANY + ["y", "", "X", Strange()]:
            with self.assertRaises(UnknownLabel) as caught:
                desk.claim_of(odd)
            self.assertIs(caught.exception.value, odd)

    def test_facts(self):
        # A deed put in leaves true what "leads", "cheap" and "under" say; one taken out what the contraries say.
        for seed in range(20):
            dice = random.Random(seed)
            desk = desk_of("house a 3")
            for k, word in enumerate(("leads", "shut", "cheap", "dear", "under", "over", "leads", "shut", "cheap", "dear", "under", "over")):
                more = f" {dice.randint(0, 9)}" if word in ("cheap", "dear", "under", "over") else ""
                desk.do(f"claim l{k} {word} a {dice.randrange(3)} {dice.randint(0, 4)} {dice.randrange(3)} {dice.randint(0, 4)}{more}")
            for _ in range(14):
                change = dice.choice([-1, 0, 1])
                line = f"put a {dice.randrange(3)} {change} {dice.randrange(3)} {'empty' if change >= 0 and dice.random() < 0.3 else 'any'} {dice.randint(0, 4)}"
                try:
                    told = desk.do(line)
                except InvalidDeed:
                    continue
                self.check_changed(desk, told, ("shut", "dear", "over"), "false")
                self.check_changed(desk, told, ("leads", "cheap", "under"), "true")
            while len(desk["a"][0]) > 0:
                told = desk.do(f"take a {dice.randrange(len(desk['a'][0]))}")
                self.check_changed(desk, told, ("shut", "dear", "over"), "true")
                self.check_changed(desk, told, ("leads", "cheap", "under"), "false")

    def check_changed(self, desk, told, words, state):
        for change in [] if told == "-" else told.split(", "):
            label, now = change.split(" ")
            if desk.do(f"claimed {label}").split(" ")[0] in words:
                self.assertEqual(now, state)

    def test_example(self):
        desk = Desk()
        self.assertEqual(desk.do_all("house a 2", "put a 0 1 0 any 3", "claim up leads a 0 0 1 4", "put a 0 -1 1 any 2", "cost a 0 0 1 4", "undo", "states", "least a 0 2 0"),
                         ["-", "-", "up false", "up true", "17", "put a 0 -1 1 any 2", "up false", "2"])
        self.assertEqual([desk.do("redo"), desk.attach("up", [([0], 5), 1]), desk.fits("up"), desk.do("take a 1"), desk.fits("up")],
                         ["put a 0 -1 1 any 2", None, True, "up false", False])


class Errors(unittest.TestCase):
    def setUp(self):
        self.desk = desk_of(*STALL, "copy b a", "claim up leads a 0 0 0 2", "house c 1", "undo")

    def check(self, line, error, **told):
        before = kept(self.desk)
        for call in (self.desk.do, self.desk, lambda command: self.desk.do(command=command)):
            with self.assertRaises(error) as caught:
                call(line)
            self.assertIs(type(caught.exception), error)
            for name, value in told.items():
                self.assertEqual(getattr(caught.exception, name), value, line)
        for call in (self.desk.do_all, self.desk.attempt):
            with self.assertRaises(CommandFailed) as caught:
                call("names", "states", line, "x")
            self.assertEqual((caught.exception.position, type(caught.exception.__cause__)), (2, error))
            for name, value in told.items():
                self.assertEqual(getattr(caught.exception.__cause__, name), value, line)
        self.assertEqual(kept(self.desk), before)

    def test_commands_of_any_kind(self):
        for value in ANY + ["", "x", "put a 0 2 0 any 5", "states a", Strange(), ["names"], b"names"]:
            before = kept(self.desk)
            with self.assertRaises(InvalidCommand) as caught:
                self.desk.do(value)
            self.assertIs(caught.exception.value, value)
            with self.assertRaises(CommandFailed) as caught:
                self.desk.do_all("drop a", value)
            self.assertIs(caught.exception.__cause__.value, value)
            self.assertEqual(kept(self.desk), before)

    def test_names_and_labels(self):
        for line in ("house a 99", "copy a x", "plain b x", "turn a x", "beside b x y"):
            self.check(line, NameTaken, name=line.split(" ")[1])
        self.check("claim up leads x 0 0 0 0", LabelTaken, label="up")
        for line in ("put x 9 0 0 any 5", "take x 9", "price x 9 9", "copy z x", "plain z x", "turn z x", "beside z x y", "drop x", "claim l leads x 9 0 0 0", "claim l holds x leads 0 n 0 n",
                     "deeds x", "leads x 9 0 0 0", "cost x 9 0 0 0", "roof x 9 0 0 0", "gain x 9 0 0", "first x 9 0 0", "least x 9 0 0", "most x 9 0 0", "ask x leads 9 n 0 n"):
            self.check(line, UnknownName, value="x")
        self.check("beside z a y", UnknownName, value="y")
        for line in ("forget x", "state x", "claimed x", "forget a"):
            self.check(line, UnknownLabel, value=line.split(" ")[1])

    def test_nothing_to_undo_or_redo(self):
        desk = Desk()
        for line, error in (("undo", NothingToUndo), ("redo", NothingToRedo)):
            with self.assertRaises(error):
                desk.do(line)
        desk.do_all("house a 1", "undo")
        with self.assertRaises(NothingToUndo):
            desk.do("undo")
        desk.do_all("redo")
        with self.assertRaises(NothingToRedo):
            desk.do("redo")
        desk.do_all("undo", "house b 1")
        with self.assertRaises(NothingToRedo):
            desk.do("redo")

    def test_errors_of_houses(self):
        self.check("house z 0", InvalidPlaces, value=0)
        self.check("house z 17", InvalidPlaces, value=17)
        for line, deed in (("put a 3 0 0 any 5", (3, 0, 0, "any")), ("put a 0 1 1 any 9", (0, 1, 1, "any")), ("put a 0 -1 0 empty 9", (0, -1, 0, "empty")), ("put a 0 1 99 any 5", (0, 1, 99, "any"))):
            self.check(line, InvalidDeed, value=deed)
        for line in ("take a 5", f"take a {FAR}", "price a 5 9"):
            self.check(line, InvalidPosition, value=int(line.split(" ")[2]))
        self.check("turn z a", NotPlain)
        self.desk.do_all("house big 14")
        self.check("beside z a big", TooMany, what="places", limit=16)
        self.desk.do_all("house full 4", *[f"put full {a} {c} {b} any 0" for a in range(4) for b in range(4) for c in (0, 1, -1)],
                         *[f"put full {a} 0 {b} empty 0" for a in range(3) for b in range(4)])
        self.check("put full 3 1 3 empty 0", TooMany, what="deeds", limit=60)
        self.check("beside z full a", TooMany, what="deeds", limit=60)

    def test_errors_of_questions(self):
        for line, value in (("leads a 3 0 9 0", 3), ("leads a 0 0 9 0", 9), ("cost a 3 0 9 0", 3), ("cost a 0 0 3 0", 3), ("roof a 4 0 9 0", 4), ("gain a 0 3 -1", 3), ("gain a 5 3 -1", 5),
                            ("first a 7 9 0", 7), ("first a 0 9 0", 9), ("least a 3 0 9", 3), ("least a 0 0 9", 9), ("most a 8 0 9", 8), (f"most a 0 0 {FAR}", FAR)):
            self.check(line, InvalidPlace, value=value)
        self.check("ask a some n leads 0 n 3 m", InvalidSaying, value=("some", "n", ("leads", 0, "n", 3, "m")))
        self.desk.do("house big 7")
        self.check("cost big 0 0 0 0", TooMany, what="places", limit=6)
        self.check("cost big 7 0 0 0", InvalidPlace, value=7)

    def test_no_claims(self):
        house, prices = self.desk["a"]
        for words, claim in (("leads a 3 0 0 0", ("leads", house, 3, 0, 0, 0)), ("over a 0 0 7 0 1", ("over", house, 0, 0, 7, 0, 1)),
                             ("cheap a 0 0 4 0 1", ("cheap", house, prices, 0, 0, 4, 0, 1)), ("holds a leads 0 n 0 m", ("holds", house, ("leads", 0, "n", 0, "m"))),
                             ("fails a some n leads 0 n 3 n", ("fails", house, ("some", "n", ("leads", 0, "n", 3, "n"))))):
            self.check(f"claim l {words}", InvalidClaim, value=claim)
        self.desk.do("house big 7")
        self.check("claim l dear big 0 0 0 0 1", InvalidClaim, value=("dear", House(7, []), [], 0, 0, 0, 0, 1))

    def test_too_many_houses_and_labels(self):
        self.desk.do_all(*[f"house h{k} 1" for k in range(6)])
        for line in ("house z 1", "copy z a", "plain z a", "turn z h1", "beside z h1 h2"):
            self.check(line, TooMany, what="houses", limit=8)
        self.check("house z 0", InvalidPlaces)
        self.check("house a 0", NameTaken)
        self.check("turn z a", NotPlain)
        self.desk.do_all(*[f"claim l{k} leads a 0 0 0 {k}" for k in range(11)])
        self.check("claim z leads a 0 0 0 1", TooMany, what="labels", limit=12)
        self.check("claim z leads a 0 0 9 1", InvalidClaim)
        self.check("claim l1 leads a 0 0 0 1", LabelTaken)

    def test_too_many_deeds(self):
        desk = desk_of("house a 1", "house b 1", "put a 0 1 0 any 0", *[f"price a 0 {k}" for k in range(297)])
        self.desk = desk
        self.assertEqual(len(desk), 300)
        self.check_late("price a 0 0", TooMany)
        self.check_late("house c 1", TooMany)
        self.check_late("claim l leads a 0 0 0 0", TooMany)
        self.check_late("price a 1 0", InvalidPosition)
        desk.do_all("undo", "redo", "undo", "undo")
        self.assertEqual((len(desk), desk.do("deeds a")), (298, "0 1 0 any 294"))
        desk.do_all("house c 1", "house d 1")
        self.check_late("house e 1", TooMany)
        self.assertEqual(len(Desk.again(desk.lines())), 300)
        with self.assertRaises(CommandFailed) as caught:
            Desk.again(desk.lines() + ["house e 1"])
        self.assertEqual((caught.exception.position, caught.exception.__cause__.what, caught.exception.__cause__.limit), (300, "deeds", 300))

    def check_late(self, line, error):
        lines = self.desk.lines()
        with self.assertRaises(error) as caught:
            self.desk.do(line)
        if error is TooMany:
            self.assertEqual((caught.exception.what, caught.exception.limit), ("deeds", 300))
        self.assertEqual(self.desk.lines(), lines)

    def test_houses_ahead_of_deeds(self):
        desk = desk_of(*[f"house h{k} 1" for k in range(8)], "put h0 0 1 0 any 0", *[f"price h0 0 {k}" for k in range(291)])
        self.assertEqual(len(desk), 300)
        with self.assertRaises(TooMany) as caught:
            desk.do("house z 1")
        self.assertEqual(caught.exception.what, "houses")


class Back(unittest.TestCase):
    def test_undo_and_redo(self):
        desk = Desk()
        lines = [*STALL, "claim up leads a 0 0 0 2", "claim x dear a 0 5 0 0 9", "take a 4", "plain p a", "drop a", "house a 1", "forget up", "turn t p", "beside s t p", "price t 0 9"]
        told = [kept(desk)]
        for line in lines:
            desk.do(line)
            told.append(kept(desk))
        for at in range(len(lines) - 1, -1, -1):
            self.assertEqual(desk.do("undo"), lines[at])
            self.assertEqual(kept(desk)[:8], told[at][:8])
            self.assertEqual(kept(desk)[9:], lines[at:])
        for at, line in enumerate(lines):
            desk.do_all("states", "names")
            self.assertEqual(desk.do("redo"), line)
            self.assertEqual(kept(desk)[:8], told[at + 1][:8])
        desk.do_all("undo", "undo", "undo")
        self.assertEqual(len(desk), len(lines) - 3)
        with self.assertRaises(NameTaken):
            desk.do("house a 1")
        self.assertEqual(desk.do("redo"), lines[-3])
        desk.do("house new 1")
        with self.assertRaises(NothingToRedo):
            desk.do("redo")
        self.assertEqual(desk.lines(), lines[:-2] + ["house new 1"])

    def test_do_all(self):
        desk = desk_of(*STALL)
        before = kept(desk)
        self.assertEqual((desk.do_all(), desk.attempt()), ([], []))
        with self.assertRaises(CommandFailed) as caught:
            desk.do_all("drop a", "undo", "claim x leads a 0 0 0 1", "leads a 0 0 7 0", "names")
        self.assertEqual((caught.exception.position, caught.exception.__cause__.value), (3, 7))
        self.assertEqual(kept(desk), before)
        self.assertEqual(desk.do_all("undo", "names", "redo"), ["put a 2 0 0 empty 5", "a", "put a 2 0 0 empty 5"])

    def test_what_can_be_done_again_stays(self):
        desk = desk_of(*STALL, "undo", "undo")
        before = kept(desk)
        for commands in (("house a 1",), ("redo", "house b 1", "x"), ("undo", "undo", "undo", "undo", "undo")):
            with self.assertRaises(CommandFailed):
                desk.do_all(*commands)
            with self.assertRaises(CommandFailed):
                desk.attempt(*commands)
            self.assertEqual(kept(desk), before)
        self.assertEqual(desk.attempt("redo", "redo", "drop a", "names"), ["put a 2 -1 2 any 1", "put a 2 0 0 empty 5", "-", "-"])
        self.assertEqual(kept(desk), before)

    def test_against_a_plain_history(self):
        # Deeds, undo and redo by dice, beside a list of deeds that are done anew each time.
        for seed in range(25):
            dice = random.Random(seed)
            desk, done, undone = Desk(), [], []
            for _ in range(40):
                line = dice.choice(["undo", "redo", "house a 2", "house b 1", "drop a", "copy b a", "plain c a", "turn c b", "beside d a b", "drop b", "drop c", "drop d",
                                    f"put a 0 1 {dice.randrange(2)} any {dice.randint(0, 3)}", f"put a {dice.randrange(2)} -1 1 any 2", "put b 0 0 0 empty 1", "take a 0",
                                    f"price a 0 {dice.randint(0, 9)}", "claim x leads a 0 1 1 0", "claim y cheap a 0 0 1 1 4", "claim z under b 0 1 0 0 1", "forget x", "forget y"])
                try:
                    answer = desk.do(line)
                except Exception:
                    continue
                if line == "undo":
                    undone.append(done.pop())
                    self.assertEqual(answer, undone[-1])
                elif line == "redo":
                    done.append(undone.pop())
                    self.assertEqual(answer, done[-1])
                else:
                    done, undone = done + [line], []
                anew = Desk.again(done)
                self.assertEqual(kept(desk)[:8], kept(anew)[:8])
                self.assertEqual(kept(desk)[9:], undone[::-1])
                for label in desk.labels:
                    claim = desk.claim_of(label)
                    self.assertEqual(desk.do(f"state {label}"), "gone" if claim is None else "true" if is_true(claim) else "false")

    def test_again(self):
        desk = desk_of(*STALL, "claim up leads a 0 0 0 2", "copy b a", "undo")
        again = Desk.again(desk.lines())
        self.assertEqual(kept(again)[:8], kept(desk)[:8])
        self.assertEqual(len(Desk.again(())), 0)
        self.assertEqual(Desk.again(lines=("house a 1",)).names, ["a"])
        for odd in [None, True, 0, "house a 1", {}, {"house a 1": 1}, Strange(), Line()]:
            with self.assertRaises(InvalidLines) as caught:
                Desk.again(odd)
            self.assertIsNone(caught.exception.position)
        for odd in ANY + ["undo", "redo", "names", "states", "leads a 0 0 0 0", "x", "", "house a"]:
            for lines in (["house a 1", odd, None], ("house a 1", odd), ["house a 99", odd]):
                with self.assertRaises(InvalidLines) as caught:
                    Desk.again(lines)
                self.assertEqual(caught.exception.position, 1)
        for lines, position, cause in ((["house a 99"], 0, InvalidPlaces), (["house a 1", "house a 1"], 1, NameTaken), (["house a 1", "forget x"], 1, UnknownLabel)):
            with self.assertRaises(CommandFailed) as caught:
                Desk.again(lines)
            self.assertEqual((caught.exception.position, type(caught.exception.__cause__)), (position, cause))

    def test_copies(self):
        desk = desk_of(*STALL, "claim up leads a 0 0 0 2", "copy b a", "undo")
        desk.attach("up", [0, 1])
        other = desk.copy()
        self.assertEqual(kept(other), kept(desk))
        self.assertIs(other.fits("up"), True)
        before = kept(desk)
        other.do_all("drop a", "house c 1")
        self.assertEqual(kept(desk), before)
        self.assertEqual(desk.do("redo"), "copy b a")
        self.assertEqual(other.names, ["c"])
        third = desk.copy()
        desk.attach("up", [([0, 1], 1)])
        desk.do("take a 0")
        self.assertEqual((desk.fits("up"), third.fits("up")), (False, True))

    def test_lines(self):
        desk = desk_of(*STALL, "names", "undo", "redo", "undo")
        self.assertEqual(desk.lines(), list(STALL[:-1]))
        self.assertTrue(all(is_deed(line) for line in desk.lines()))
        desk.lines().clear()
        desk.names.clear()
        desk["a"][1].clear()
        self.assertEqual((desk.lines(), desk.names, desk["a"][1]), (list(STALL[:-1]), ["a"], [1, 2, 3, 1]))

    def test_items(self):
        desk = desk_of(*STALL)
        self.assertTrue("a" in desk and "b" not in desk)
        for odd in ANY + ["b", "", "A", Strange(), ["a"], ("a",)]:
            self.assertIs(odd in desk, False)
            with self.assertRaises(UnknownName) as caught:
                desk[odd]
            self.assertIs(caught.exception.value, odd)
        with self.assertRaises(TypeError):
            list(desk)


class Papers(unittest.TestCase):
    def test_both_sides(self):
        desk = desk_of(*STALL, "claim up leads a 0 5 0 2", "claim no leads a 0 0 0 3", "claim c cheap a 0 5 0 0 12", "claim o over a 0 5 0 2 4", "claim h fails a all n all m leads 0 n 0 m")
        for label in desk.labels:
            claim = desk.claim_of(label)
            told = claim if is_true(claim) else contrary(claim)
            self.assertIs(desk.fits(label), False)
            for paper in ANY + [paper_of(contrary(told)), (), [0]]:
                if label != "o" or paper != () or not isinstance(paper, tuple):
                    with self.assertRaises(InvalidPaper) as caught:
                        desk.attach(label, paper)
                    self.assertIs(caught.exception.value, paper)
            self.assertIsNone(desk.attach(paper=paper_of(told), label=label))
            self.assertIs(desk.fits(label=label), True)
        before = kept(desk)
        self.assertEqual(len(desk), 11)
        desk.do_all("put a 1 0 1 any 0", "undo")
        self.assertEqual(kept(desk)[:9], before[:9])

    def test_a_paper_of_what_it_was_kept_for(self):
        desk = desk_of("house a 2", "put a 0 1 0 any 3", "put a 0 -1 1 any 2", "claim up leads a 0 0 1 4")
        desk.attach("up", [([0], 5), 1])
        self.assertEqual([desk.do("take a 1"), desk.fits("up"), desk.do("undo"), desk.fits("up")], ["up false", False, "take a 1", True])
        desk.do_all("take a 1")
        desk.attach("up", {0: Line.counts(), 1: Line()})
        self.assertIs(desk.fits("up"), True)
        desk.do("put a 1 0 1 any 0")
        self.assertIs(desk.fits("up"), True)
        desk.do("put a 0 -1 1 any 2")
        self.assertIs(desk.fits("up"), False)
        desk.do("drop a")
        self.assertIs(desk.fits("up"), False)
        with self.assertRaises(InvalidPaper):
            desk.attach("up", [([0], 5), 1])
        desk.do_all("undo", "undo")
        self.assertIs(desk.fits("up"), True)

    def test_forgotten_and_noted_again(self):
        desk = desk_of("house a 2", "put a 0 1 0 any 3", "put a 0 -1 1 any 2", "claim up leads a 0 0 1 4")
        desk.attach("up", [([0], 5), 1])
        desk.do("forget up")
        for call in (lambda: desk.fits("up"), lambda: desk.attach("up", [])):
            with self.assertRaises(UnknownLabel):
                call()
        desk.do("claim up leads a 0 0 1 5")
        self.assertIs(desk.fits("up"), False)
        desk.do_all("forget up", "claim up shut a 0 0 1 4")
        self.assertIs(desk.fits("up"), False)
        desk.do_all("forget up", "claim up leads a 0 0 1 4")
        self.assertIs(desk.fits("up"), True)
        desk.do_all("forget up", "claim up leads a 0 0 1 5")
        desk.attach("up", [([0], 6), 1])
        desk.do_all("forget up", "claim up leads a 0 0 1 4")
        self.assertIs(desk.fits("up"), False)

    def test_papers_are_copied(self):
        desk = desk_of("house a 2", "put a 0 1 0 any 3", "put a 0 -1 1 any 2", "claim up leads a 0 0 1 4", "claim no leads a 1 0 0 4")
        going, table = [([0], 5), 1], {0: Line(), 1: Line.of([0])}
        desk.attach("up", going)
        desk.attach("no", table)
        going[0][0].append(1)
        going.clear()
        table[0] = Line.counts()
        self.assertEqual((desk.fits("up"), desk.fits("no")), (True, True))

    def test_it_is_no_deed(self):
        desk = desk_of("house a 1", "claim x leads a 0 0 0 0", "house b 1", "undo")
        desk.attach("x", [])
        self.assertEqual((len(desk), desk.do("redo"), desk.do("undo"), desk.do("undo"), desk.do("redo"), desk.fits("x")),
                         (2, "house b 1", "house b 1", "claim x leads a 0 0 0 0", "claim x leads a 0 0 0 0", True))

    def test_unknown_labels(self):
        desk = desk_of("house a 1")
        for odd in ANY + ["a", "x", Strange()]:
            for call in (lambda: desk.fits(odd), lambda: desk.attach(odd, None)):
                with self.assertRaises(UnknownLabel) as caught:
                    call()
                self.assertIs(caught.exception.value, odd)


class Trials(unittest.TestCase):
    def test_all_is_as_before(self):
        desk = desk_of(*STALL, "claim up leads a 0 0 0 2", "copy b a", "undo")
        before = kept(desk)
        with Trial(desk) as held:
            self.assertIs(held, desk)
            held.do_all("redo", "drop a", "claim x leads b 0 0 0 0")
            held.attach("x", [])
            self.assertEqual(held.names, ["b"])
        self.assertEqual(kept(desk), before)
        trial = Trial(desk=desk)
        for line in ("drop a", "undo", "redo"):
            with trial:
                desk.do(line)
            self.assertEqual(kept(desk), before)

    def test_papers_too(self):
        desk = desk_of("house a 1", "claim x leads a 0 0 0 0")
        with Trial(desk):
            desk.attach("x", [])
            self.assertIs(desk.fits("x"), True)
        self.assertIs(desk.fits("x"), False)

    def test_errors_go_on(self):
        desk = desk_of(*STALL)
        before = kept(desk)
        with self.assertRaises(UnknownName):
            with Trial(desk):
                desk.do("drop a")
                desk.do("drop a")
        self.assertEqual(kept(desk), before)
        with self.assertRaises(KeyError):
            with Trial(desk):
                desk.do("drop a")
                raise KeyError("x")
        self.assertEqual(kept(desk), before)

    def test_one_within_another(self):
        desk = desk_of(*STALL)
        before = kept(desk)
        with Trial(desk):
            desk.do("copy b a")
            within = kept(desk)
            with Trial(desk):
                desk.do_all("drop a", "drop b")
            self.assertEqual(kept(desk), within)
        self.assertEqual(kept(desk), before)

    def test_tried(self):
        desk = desk_of(*STALL)
        before = kept(desk)
        self.assertEqual(tried(desk, lambda held: held.do_all("house b 1", "names")), ["-", "a b"])
        self.assertIs(tried(action=lambda held: held, desk=desk), desk)
        with self.assertRaises(ZeroDivisionError):
            tried(desk, lambda held: held.do_all("drop a") and 1 // 0)
        self.assertEqual(kept(desk), before)


class Words(unittest.TestCase):
    def test_each_command_of_the_table(self):
        # Each line that is a command by its words is one for the desk, too: what it fails with is no InvalidCommand.
        for line in DEEDS + OTHERS:
            for desk in (Desk(), desk_of("house a 16", "house b 2", "claim up leads a 0 0 0 0")):
                try:
                    answer = desk.do(line)
                except Exception as error:
                    self.assertNotIsInstance(error, InvalidCommand)
                else:
                    self.assertIsInstance(answer, str)


if __name__ == "__main__":
    unittest.main()
