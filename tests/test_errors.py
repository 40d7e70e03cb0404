import unittest

from gustfloor import errors
from gustfloor.ratios import Ratio

GUST = {
    "InvalidRatio": ("given",),
    "InvalidSpan": ("given",),
    "InvalidText": ("line",),
    "InvalidName": ("name",),
    "DuplicateName": ("name",),
    "InvalidCorners": ("at",),
    "NotConvex": (),
    "InvalidWinds": (),
    "SplitSide": ("side",),
    "InvalidTiles": ("at",),
    "TooMany": ("most",),
    "Overlap": ("one", "other"),
    "LooseCorner": ("corner",),
    "InvalidWall": ("side",),
    "InvalidChord": ("one", "other"),
    "NotJoined": ("one", "other"),
    "MarkedSide": ("side",),
    "InvalidPlace": ("value",),
    "InvalidRound": ("value",),
    "InvalidCount": ("given",),
    "TooFar": ("most",),
    "InvalidDeed": ("index",),
    "InvalidLimit": ("given",),
}
MISSING = {
    "UnknownTile": ("name",),
    "UnknownSide": ("side",),
    "UnknownMark": ("name",),
}
NOTHING = {"NothingLeft": ()}
PARAMETERS = {**GUST, **MISSING, **NOTHING}
VALUES = [
    None, True, 0, -7, 10 ** 99, "", "a b\n", (), (1, "x"), [3, None], ((0, 0), (4, 0)), Ratio(1, 2), (1, Ratio(0)),
]


class ErrorTests(unittest.TestCase):
    def test_direct_base_classes(self):
        self.assertEqual(errors.GustError.__bases__, (ValueError,))
        self.assertEqual(errors.Missing.__bases__, (LookupError,))
        for name in GUST:
            self.assertEqual(getattr(errors, name).__bases__, (errors.GustError,), name)
        for name in MISSING:
            self.assertEqual(getattr(errors, name).__bases__, (errors.Missing,), name)
        self.assertEqual(errors.NothingLeft.__bases__, (IndexError,))

    def test_no_other_class_is_above_another_one(self):
        for name in PARAMETERS:
            for other in PARAMETERS:
                above = issubclass(getattr(errors, name), getattr(errors, other))
                self.assertEqual(above, name == other, (name, other))
        self.assertFalse(issubclass(errors.Missing, errors.GustError))
        self.assertFalse(issubclass(errors.GustError, errors.Missing))
        self.assertFalse(issubclass(errors.NothingLeft, errors.GustError))
        self.assertFalse(issubclass(errors.NothingLeft, errors.Missing))

    def test_classes_are_defined_in_this_file(self):
        for name in ["GustError", "Missing"] + list(PARAMETERS):
            self.assertEqual(getattr(errors, name).__module__, "gustfloor.errors", name)
            self.assertEqual(getattr(errors, name).__name__, name)

    def test_code_is_the_name_of_the_class(self):
        for name, words in PARAMETERS.items():
            self.assertEqual(getattr(errors, name)(*words).code, name)

    def test_parameters_by_position(self):
        for name, words in PARAMETERS.items():
            values = [f"value of {word}" for word in words]
            error = getattr(errors, name)(*values)
            self.assertEqual([getattr(error, word) for word in words], values, name)

    def test_parameters_by_name(self):
        for name, words in PARAMETERS.items():
            values = {word: f"value of {word}" for word in words}
            for given in (values, dict(reversed(list(values.items())))):
                error = getattr(errors, name)(**given)
                self.assertEqual({word: getattr(error, word) for word in words}, values, name)
                self.assertEqual(error.code, name)

    def test_second_parameter_by_name_alone(self):
        for name in ("Overlap", "InvalidChord", "NotJoined"):
            error = getattr(errors, name)("a", other="b")
            self.assertEqual((error.one, error.other), ("a", "b"))

    def test_constructors_take_any_value(self):
        for name, words in PARAMETERS.items():
            for value in VALUES:
                error = getattr(errors, name)(*[value for _ in words])
                for word in words:
                    self.assertIs(getattr(error, word), value, name)
                self.assertEqual(error.code, name)

    def test_errors_are_caught_by_their_base_classes(self):
        for names, base in ((GUST, ValueError), (MISSING, LookupError), (NOTHING, IndexError)):
            for name in names:
                with self.assertRaises(base):
                    raise getattr(errors, name)(*PARAMETERS[name])


if __name__ == "__main__":
    unittest.main()
