"""The section "Errors": each class, its base, its attributes and its constructor."""

import unittest

from lonetill import errors

TILL = {
    "value": """InvalidNumber InvalidMany InvalidPlace InvalidLine InvalidGoing InvalidPrices InvalidSaying
        InvalidChanges InvalidClaim InvalidCommand InvalidDeed InvalidGoods InvalidGrid InvalidGrids InvalidHouse
        InvalidLeast InvalidLetter InvalidLots InvalidNumbers InvalidOrder InvalidPairs InvalidPaper InvalidPlaces
        InvalidPosition InvalidThing InvalidValues InvalidWord""".split(),
    "position": """InvalidBlocks InvalidDeeds InvalidFamilies InvalidLines InvalidRows InvalidStretches""".split(),
    "line": ["InvalidText"],
}
MISSING = {"letter": ["MissingLetter"], "value": ["UnknownLabel", "UnknownName"]}
STATE = {"position": ["CommandFailed"], "label": ["LabelTaken"], "name": ["NameTaken"], "free": ["OpenSaying"],
         "letter": ["UnlikeChanges"]}
BARE = ["NotPlain", "NothingToRedo", "NothingToUndo"]


class Errors(unittest.TestCase):
    def check_lot(self, base, lot):
        for attribute, names in lot.items():
            for name in names:
                kind = getattr(errors, name)
                self.assertEqual(kind.__bases__, (base,), name)
                value = [name, {"a": (None, True)}]
                self.assertEqual(getattr(kind(value), attribute), value, name)
                self.assertIs(getattr(kind(**{attribute: value}), attribute), value, name)
                with self.assertRaises(kind):
                    raise kind(None)

    def test_bases(self):
        self.assertEqual(errors.TillError.__bases__, (ValueError,))
        self.assertEqual(errors.MissingError.__bases__, (LookupError,))
        self.assertEqual(errors.StateError.__bases__, (RuntimeError,))
        self.assertEqual(errors.LimitError.__bases__, (ArithmeticError,))

    def test_kinds(self):
        self.check_lot(errors.TillError, TILL)
        self.check_lot(errors.MissingError, MISSING)
        self.check_lot(errors.StateError, STATE)

    def test_bare(self):
        for name in BARE:
            kind = getattr(errors, name)
            self.assertEqual(kind.__bases__, (errors.StateError,), name)
            self.assertIsInstance(kind(), errors.StateError)

    def test_too_many(self):
        self.assertEqual(errors.TooMany.__bases__, (errors.LimitError,))
        found = errors.TooMany("stretches", 200)
        self.assertEqual((found.what, found.limit), ("stretches", 200))
        found = errors.TooMany(limit=[1], what=None)
        self.assertEqual((found.what, found.limit), (None, [1]))

    def test_nothing_else(self):
        told = {"TillError", "MissingError", "StateError", "LimitError", "TooMany"} | set(BARE)
        for lot in (TILL, MISSING, STATE):
            for names in lot.values():
                told |= set(names)
        there = {name for name, kind in vars(errors).items() if isinstance(kind, type)}
        self.assertEqual(there, told)


if __name__ == "__main__":
    unittest.main()
