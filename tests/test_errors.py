"""[0.3]: the error classes, their bases and their fields."""

import ast
import unittest
from pathlib import Path

from allbrought import errors
from allbrought.floors import Floor

FIELDS = {
    "BadFloor": ["part"], "NoCell": [], "NoRobot": [], "NoStation": [], "NotWellFormed": ["who", "station"],
    "NoEntry": [], "NoneIn": [], "Full": [], "IsOut": [], "IsIn": [], "BadEntry": ["index"], "NoTick": [],
    "NoTracks": [], "NoStep": [], "NotClosed": [], "NotAmid": [], "TooEarly": ["index"], "NoTimes": [],
    "NoNumber": [], "NoRow": [], "NoPlace": [], "BadRow": ["place"], "BadChange": ["place"], "NoLetter": [],
    "NoBook": [], "NoPast": [], "NoEye": [], "NotYet": [], "NotBegun": [], "NoDeed": [], "BadDeeds": ["index"],
    "NoCut": [], "NoBlocks": [], "NoDisk": [], "OtherMatch": [], "BadFilm": ["index"], "NoMoment": [],
    "NoCounts": [], "BadText": ["line"], "NoPlan": [], "NoHeld": [], "NoLoads": [], "NoPicture": [], "Unlike": [],
    "NoChanges": [], "NoLine": [], "NoName": ["name"],
}
VALUES = [
    0, 7, "homes", "", None, True, (1, (2, "x")), [1, [2]], {"a": [3]}, b"ab", -1, 10 ** 20 - 1, Floor(("H",)),
    [[[[]]]], ((((),),),), object(), len, NotImplemented,
]


class Errors(unittest.TestCase):
    def test_these_and_no_others_stand_there(self):
        tree = ast.parse(Path(errors.__file__).read_text())
        defined = [node.name for node in tree.body if isinstance(node, ast.ClassDef)]
        self.assertEqual(sorted(defined), sorted(["FloorError"] + list(FIELDS)))

    def test_bases(self):
        self.assertEqual(errors.FloorError.__bases__, (ValueError,))
        for name in FIELDS:
            self.assertEqual(getattr(errors, name).__bases__, (errors.FloorError,), name)

    def test_fields_keep_what_was_passed(self):
        for name, fields in FIELDS.items():
            for at, value in enumerate(VALUES):
                passed = [VALUES[(at + number) % len(VALUES)] for number in range(len(fields))]
                error = getattr(errors, name)(*passed)
                self.assertEqual(sorted(vars(error)), sorted(fields), name)
                for field, thing in zip(fields, passed):
                    self.assertIs(getattr(error, field), thing, name)

    def test_fields_are_made_with_just_these(self):
        for name, fields in FIELDS.items():
            if fields:
                for many in (0, len(fields) + 1):
                    with self.assertRaises(TypeError):
                        getattr(errors, name)(*[0] * many)

    def test_raised_and_caught(self):
        for name, fields in FIELDS.items():
            for caught in (getattr(errors, name), errors.FloorError, ValueError):
                with self.assertRaises(caught) as held:
                    raise getattr(errors, name)(*VALUES[:len(fields)])
                self.assertIs(held.exception.__class__, getattr(errors, name))

    def test_one_is_not_caught_as_another(self):
        for name, fields in FIELDS.items():
            error = getattr(errors, name)(*VALUES[:len(fields)])
            kinds = [other for other in FIELDS if isinstance(error, getattr(errors, other))]
            self.assertEqual(kinds, [name])


if __name__ == "__main__":
    unittest.main()
