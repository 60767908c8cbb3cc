"""[2], scaleborn/checks.py."""

import unittest

from scaleborn.checks import are_names, free_name, is_integer, is_name, is_within, name_above
from support import ODD, Case


class Checks(Case):
    def test_example(self):
        self.assertEqual(
            [is_integer(True), is_within(3, None, 3), is_within(0, 1, None), is_name("cup7"), is_name("Cup"),
             is_name("7up"), are_names(["a", "a"]), are_names("ab")],
            [False, True, False, True, False, False, True, False])

    def test_integers(self):
        for value in ODD:
            self.assertIs(is_integer(value), type(value) is int)
        for value in (0, -1, 2 ** 64, -10 ** 100):
            self.assertIs(is_integer(value), True)

    def test_bounds(self):
        for value in ODD:
            self.assertIs(is_within(value, None, None), type(value) is int)
        for least in (None, -2, 0, 1):
            for most in (None, -2, 0, 1):
                for value in (-10 ** 80, -3, -2, -1, 0, 1, 2, 10 ** 80):
                    told = (least is None or least <= value) and (most is None or value <= most)
                    self.assertIs(is_within(value, least, most), told)
        self.assertIs(is_within(value=2, least=1, most=2), True)
        self.assertIs(is_within(True, 0, 2), False)

    def test_names(self):
        for value in ("a", "z", "a0", "z9z9z9z9z9z9", "abcdefghijkl"):
            self.assertIs(is_name(value), True)
        for value in ("", "0", "0a", "A", "aB", "a b", " a", "a ", "a\n", "a_b", "a-b", "abcdefghijklm", "\u00e4", "a\u0663",
                      "a" * 100000):
            self.assertIs(is_name(value), False, value)
        for value in ODD:
            self.assertIs(is_name(value), value == "a" if isinstance(value, str) else False)

    def test_lists_of_names(self):
        for value in ([], (), ["a"], ("b", "a"), ["a", "a"]):
            self.assertIs(are_names(value), True)
        for value in ("a", "", None, {"a": 1}, {"a"}, ["a", "A"], ["a", None], [["a"]], ("a", True), 5, object()):
            self.assertIs(are_names(value), False)

    def test_names_above(self):
        for name, above in (("", "a"), ("a", "a0"), ("zzzzzzzzzzz", "zzzzzzzzzzz0"), ("a00000000000", "a00000000001"),
                            ("a00000000009", "a0000000000a"), ("a0000000000q", "a0000000000r"),
                            ("a0000000000z", "a0000000001"), ("azzzzzzzzzzz", "b"),
                            ("zzzzzzzzzzzz", None)):
            self.assertEqual(name_above(name), above)
        self.assertEqual(free_name("a", {"a0": 1, "a00": 1}), "a000")
        self.assertEqual(free_name("zzzzzzzzzzzy", {}), "zzzzzzzzzzzz")
        self.assertIsNone(free_name("zzzzzzzzzzzy", {"zzzzzzzzzzzz": 1}))


if __name__ == "__main__":
    unittest.main()
