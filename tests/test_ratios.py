"""[2], [3], scaleborn/ratios.py."""

import unittest
from fractions import Fraction

from scaleborn.errors import BadRatio
from scaleborn.ratios import Ratio, added, is_ratio
from support import ODD, Case, is_a

BIG = 3 ** 300
VALUES = [(top, bottom) for top in (-7, -6, -1, 0, 1, 2, 9, BIG, -BIG * 2) for bottom in (-6, -3, -1, 1, 2, 4, BIG)]


def fraction(ratio):
    return Fraction(ratio.top, ratio.bottom)


class Ratios(Case):
    def test_example(self):
        half = Ratio(2, -4)
        self.assertEqual(
            [half, half.bottom, half.below, half + 1, half * half, half.over(Ratio(1, 3)), half.is_below(0),
             half == Ratio(-1, 2), bool(Ratio(0)), added(half, 2, Ratio(1, 3))],
            [Ratio(-1, 2), 2, -1, Ratio(1, 2), Ratio(1, 4), Ratio(-3, 2), True, True, False, Ratio(11, 6)])
        self.assertEqual(
            repr([half, half.bottom, half.below, half + 1, half * half, half.over(Ratio(1, 3)), half.is_below(0),
                  half == Ratio(-1, 2), bool(Ratio(0)), added(half, 2, Ratio(1, 3))]),
            "[-1/2, 2, -1, 1/2, 1/4, -3/2, True, True, False, 11/6]")
        self.bad_text(Ratio.read, "4/2", 0)

    def test_lowest_terms(self):
        for top, bottom in VALUES:
            ratio, told = Ratio(top, bottom), Fraction(top, bottom)
            self.assertEqual((ratio.top, ratio.bottom), (told.numerator, told.denominator))
            self.assertIs(type(ratio.sign), int)
            self.assertEqual(ratio.sign, (told > 0) - (told < 0))
            self.assertIs(ratio.is_whole, told.denominator == 1)
            self.assertEqual(ratio.below, told.numerator // told.denominator)
            self.assertIs(bool(ratio), told != 0)
            self.assertEqual(str(ratio), str(told))
            self.assertEqual(repr(ratio), str(told))
        self.assertEqual((Ratio(5).top, Ratio(5).bottom), (5, 1))
        self.assertEqual((Ratio(0, -9).top, Ratio(0, -9).bottom), (0, 1))
        self.assertEqual(str(Ratio(bottom=4, top=6)), "3/2")

    def test_wrong_tops_and_bottoms(self):
        self.refuses(BadRatio, "top", lambda value: Ratio(value), [is_a(int)])
        self.refuses(BadRatio, "top", lambda value: Ratio(value, 0), [is_a(int)])
        self.refuses(BadRatio, "bottom", lambda value: Ratio(1, value), [lambda value: type(value) is int and value])
        self.raises(BadRatio, {"part": "bottom"}, Ratio, 0, 0)
        self.raises(BadRatio, {"part": "top"}, Ratio, True, True)

    def test_arithmetic(self):
        for top, bottom in VALUES:
            one, first = Ratio(top, bottom), Fraction(top, bottom)
            self.assertEqual(fraction(-one), -first)
            self.assertEqual(fraction(abs(one)), abs(first))
            for other_top, other_bottom in VALUES:
                second = Fraction(other_top, other_bottom)
                others = [Ratio(other_top, other_bottom)]
                if second.denominator == 1:
                    others.append(second.numerator)
                for other in others:
                    self.assertEqual(fraction(one + other), first + second)
                    self.assertEqual(fraction(one - other), first - second)
                    self.assertEqual(fraction(one * other), first * second)
                    self.assertEqual(one.compared(other), (first > second) - (first < second))
                    self.assertIs(one.is_below(other), first < second)
                    self.assertIs(one == other, first == second)
                    self.assertIs(one != other, first != second)
                    self.assertIs(other == one, first == second)
                    if second:
                        self.assertEqual(fraction(one.over(other)), first / second)
                    else:
                        self.raises(BadRatio, {"part": "other"}, one.over, other)

    def test_results_are_ratios(self):
        for value in (Ratio(1) + 1, Ratio(1) - 1, Ratio(1) * 2, Ratio(4).over(2), -Ratio(1), abs(Ratio(1)), Ratio.of(3),
                      added(), added(1, 2), Ratio.read("3")):
            self.assertIs(type(value), Ratio)

    def test_other_values(self):
        right = [is_a(int, Ratio)]
        one = Ratio(1, 2)
        for call in (lambda value: one + value, lambda value: one - value, lambda value: one * value, one.compared,
                     one.is_below, one.over):
            self.refuses(BadRatio, "other", call, right)
        self.refuses(BadRatio, "value", Ratio.of, right)
        self.refuses(BadRatio, "ratios", added, right)
        self.refuses(BadRatio, "ratios", lambda value: added(1, one, value, 2), right)

    def test_equality_with_other_values(self):
        for value in ODD:
            self.assertIs(is_ratio(value), type(value) in (int, Ratio))
            if type(value) not in (int, Ratio) and "Stubborn" not in repr(value):
                for ratio in (Ratio(1), Ratio(0), Ratio(1, 2)):
                    self.assertIs(ratio == value, False)
                    self.assertIs(ratio != value, True)
        self.assertIs(Ratio(1) == True, False)  # noqa: E712
        self.assertIs(Ratio(0) == False, False)  # noqa: E712
        self.assertIs(Ratio(2) == 2, True)
        self.assertIs(Ratio(1, 2) == 0, False)

    def test_of(self):
        self.assertEqual(Ratio.of(Ratio(2, 4)), Ratio(1, 2))
        self.assertEqual(Ratio.of(-7), Ratio(-7))
        self.assertEqual(added(Ratio(1, 2), Ratio(1, 3), -1), Ratio(-1, 6))

    def test_texts(self):
        for text in ("0", "1", "-1", "12", "1/2", "-3/2", "10/3", "9" * 60, "-" + "9" * 60, "1/" + "9" * 60,
                     "-" + "9" * 60 + "/" + "1" + "0" * 59):
            self.assertEqual(str(Ratio.read(text)), text)
            self.assertIs(type(Ratio.read(text)), Ratio)
        for text in ("", "4/2", "0/5", "-0", "+1", "3/1", "1/-2", "1/0", "0/0", "00", "01", "1/02", "1/", "/2", "/", "-",
                     "--1", "-/2", "1/2/3", "1.0", "1e3", "a", "\u0661", "1_0", "\t1", "1\n", "1/1", "-2/4", "9" * 61,
                     "1/" + "1" * 61, "1" * 61 + "/2", "9" * 99999):
            self.bad_text(Ratio.read, text, 0)
        for text in (" 1", " "):
            self.bad_text(Ratio.read, text, 0)
        for text in ("1 ", "1 2", "1/2 x", "0 0 0"):
            self.bad_text(Ratio.read, text, 1)
        for value in ODD:
            if not isinstance(value, str):
                self.bad_text(Ratio.read, value, 0)


if __name__ == "__main__":
    unittest.main()
