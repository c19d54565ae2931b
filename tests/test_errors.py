"""The constants, and the classes of errors."""

import unittest

from wordshapes import errors, limits

GIVEN = [
    "InvalidWord", "InvalidLetter", "InvalidShape", "InvalidRows", "InvalidRow", "InvalidHoles", "InvalidPair",
    "InvalidArray", "InvalidPlace", "InvalidNumber", "InvalidAmounts", "InvalidGrowth", "InvalidBasis", "InvalidTerms",
    "InvalidHive", "InvalidPattern", "InvalidHidden", "InvalidText", "InvalidName", "InvalidClaim", "InvalidIndex",
    "InvalidLine", "NotATable", "NotASkew", "NotAMixture",
]
ERRORS = {
    "WrongValue": {**dict.fromkeys(GIVEN, "given"), "InvalidDeeds": "index", "InvalidLog": "index"},
    "WrongName": {"UnknownName": "given", "InUse": "index"},
    "NoAnswer": {
        **dict.fromkeys(["NotStandard", "NotInside", "UnlikeSizes", "UnlikeShapes", "NoMove", "NotReduced"]),
        "TooMany": "limit", "NothingToUndo": None, "Broken": "index",
    },
}
BASES = {"WrongValue": ValueError, "WrongName": LookupError, "NoAnswer": ArithmeticError}
ANY = [None, True, 0, -5, 10 ** 5000, "w", b"w", (), ((1,), 2), [], [1], {}, {1: 2}, object(), ValueError, len]


class Limits(unittest.TestCase):
    def test_limits(self):
        wanted = {
            "MOST_LETTER": 12, "MOST_LONG": 12, "MOST_HOLES": 66, "MOST_BOXES": 40, "MOST_DEGREE": 8, "MOST_ROWS": 4,
            "MOST_MOVED": 9, "MOST_LISTED": 2000,
        }
        self.assertEqual({name: getattr(limits, name) for name in wanted}, wanted)
        self.assertEqual({type(getattr(limits, name)) for name in wanted}, {int})


class Errors(unittest.TestCase):
    def test_bases(self):
        for name, python_error in BASES.items():
            base = getattr(errors, name)
            self.assertEqual(base.__bases__, (python_error,))
            self.assertIsInstance(base(), python_error)
            self.assertRaises(TypeError, base, 1)

    def test_each_class_stands_right_under_its_base_only(self):
        for base, classes in ERRORS.items():
            for name in classes:
                self.assertEqual(getattr(errors, name).__bases__, (getattr(errors, base),), name)

    def test_there_are_no_other_classes(self):
        found = {name for name, value in vars(errors).items() if isinstance(value, type)}
        self.assertEqual(found, set(BASES) | {name for classes in ERRORS.values() for name in classes})

    def test_attributes_by_place_and_by_name(self):
        for classes in ERRORS.values():
            for name, attribute in classes.items():
                if attribute is not None:
                    self.look_at_attribute(getattr(errors, name), attribute)

    def look_at_attribute(self, error, attribute):
        for value in ANY:
            for made in (error(value), error(**{attribute: value})):
                self.assertIs(getattr(made, attribute), value)
                self.assertEqual(list(vars(made)), [attribute])
        self.assertRaises(TypeError, error)
        self.assertRaises(TypeError, error, 1, 2)

    def test_classes_without_attributes_take_none(self):
        for classes in ERRORS.values():
            for name, attribute in classes.items():
                if attribute is None:
                    self.assertEqual(vars(getattr(errors, name)()), {})
                    self.assertRaises(TypeError, getattr(errors, name), 1)


if __name__ == "__main__":
    unittest.main()
