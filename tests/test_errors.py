"""[2], scaleborn/errors.py."""

import unittest

from scaleborn import errors
from support import Stubborn

PART = ("BadRatio BadBalance BadComparison BadPair BadSort BadScale BadBook BadSaying BadHands BadOrder BadNumber "
        "BadPaper BadLive BadDesk").split()
FIELDS = {
    **{name: ["part"] for name in PART},
    "Missing": ["name"], "NoThing": ["name"], "NoName": ["name"], "NoPair": ["pair"], "Twice": ["name"],
    "Unlike": ["what"], "Impossible": ["paper"], "NotAbove": ["scale"], "NotCarried": ["one", "other"],
    "Hanging": ["kept", "broken"], "Nothing": [], "TooMany": ["what", "most"], "BadText": ["line", "word"],
    "BadLine": ["line", "error"]}


class Errors(unittest.TestCase):
    def test_fields_by_place_and_by_name(self):
        for name, fields in FIELDS.items():
            error = getattr(errors, name)
            for value in (None, True, 5, "a", [1], {}, object(), Stubborn(), ValueError("x")):
                values = [value, [value]][:len(fields)]
                for made in (error(*values), error(**dict(zip(fields, values)))):
                    with self.subTest(name):
                        self.assertEqual(list(vars(made)), fields)
                        for field, kept in zip(fields, values):
                            self.assertIs(getattr(made, field), kept)

    def test_one_below_another(self):
        classes = {name: getattr(errors, name) for name in FIELDS}
        for name, error in classes.items():
            base = errors.Missing if name in ("NoThing", "NoName") else errors.ScaleError
            self.assertEqual(error.__bases__, (base,), name)
            self.assertTrue(issubclass(error, ValueError))
        self.assertEqual(errors.ScaleError.__bases__, (ValueError,))

    def test_they_can_be_raised_and_caught(self):
        for name, fields in FIELDS.items():
            with self.assertRaises(errors.ScaleError):
                raise getattr(errors, name)(*fields)
        with self.assertRaises(ValueError):
            raise errors.ScaleError()

    def test_there_are_no_others(self):
        found = [name for name, value in vars(errors).items() if isinstance(value, type)]
        self.assertEqual(sorted(found), sorted([*FIELDS, "ScaleError"]))


if __name__ == "__main__":
    unittest.main()
