"""[4], [5], scaleborn/comparisons.py."""

import itertools
import unittest

from scaleborn.balances import Balance
from scaleborn.comparisons import Comparison, Pair, compared
from scaleborn.errors import BadBalance, BadComparison, BadNumber, BadPair
from scaleborn.ratios import Ratio
from scaleborn.scales import Scale
from support import COMPARISON, ODD, PAIR, Case, is_a

KINDS = (">", ">=", "=")
NOTHING = Balance({})


def is_kind(value):
    return isinstance(value, str) and value in KINDS


class Comparisons(Case):
    def test_example(self):
        one = Balance({"a": 2, "b": Ratio(-1, 2), "c": 0})
        first = compared(Balance.of("a", "b"), ">", Balance({"c": 2}))
        self.assertEqual([str(first), str(first.contraries()[0]), str(Comparison(-one, "=")), str(Pair(-one))],
                         ["a + b > 2 c", "2 c >= a + b", "4 a = b", "4 a : b"])
        self.bad_text(Comparison.read, "2 a > 2 b", 4)

    def test_form(self):
        for numbers in itertools.product((-4, -1, 0, 2, Ratio(6, 5)), repeat=3):
            balance = Balance(dict(zip("abc", numbers)))
            if balance.is_nothing:
                continue
            least = balance.least()
            turned = -least if least.number_of(least.things[0]).sign < 0 else least
            for kind in KINDS:
                comparison = Comparison(balance, kind)
                self.assertEqual(comparison.balance, turned if kind == "=" else least)
                self.assertEqual(comparison.kind, kind)
                self.assertEqual(comparison.things, balance.things)
                self.assertEqual(comparison.pair, Pair(balance))
                text = f"{comparison.balance.gains()} {kind} {comparison.balance.losses()}"
                self.assertEqual(str(comparison), text)
                self.assertEqual(Comparison.read(text), comparison)
            pair = Pair(balance)
            self.assertEqual(pair.balance, turned)
            self.assertEqual((pair.first, pair.second), (turned.gains(), turned.losses()))
            self.assertEqual(pair.things, balance.things)
            self.assertEqual(str(pair), f"{turned.gains()} : {turned.losses()}")
            self.assertEqual(Pair.read(str(pair)), pair)
            self.assertEqual(Pair(balance * Ratio(-3, 7)), pair)
        self.assertEqual(str(Comparison(kind=">", balance=Balance({"b": 6, "a": -4}))), "3 b > 2 a")
        self.assertEqual(str(Pair(balance=Balance({"b": 6, "a": -4}))), "2 a : 3 b")
        self.assertEqual(str(Comparison(Balance({"a": -1}), ">=")), "0 >= a")

    def test_wrong_comparisons(self):
        balance = Balance({"a": 1})
        self.refuses(BadBalance, "balance", lambda value: Comparison(value, ">"), [is_a(Balance)])
        self.refuses(BadBalance, "balance", lambda value: Comparison(value, "?"), [is_a(Balance)])
        self.refuses(BadComparison, "kind", lambda value: Comparison(balance, value), [is_kind])
        for kind in ("<", "==", ">>", " >", ""):
            self.raises(BadComparison, {"part": "kind"}, Comparison, balance, kind)
            self.raises(BadComparison, {"part": "balance"}, Comparison, NOTHING, kind)
        self.raises(BadComparison, {"part": "balance"}, Comparison, NOTHING, ">")

    def test_wrong_pairs(self):
        self.refuses(BadBalance, "balance", Pair, [is_a(Balance)])
        self.raises(BadPair, {"part": "balance"}, Pair, NOTHING)
        self.refuses(BadNumber, "outcome", PAIR.as_rows, [lambda value: type(value) is int and abs(value) < 2])
        self.raises(BadNumber, {"part": "outcome"}, PAIR.as_rows, -2)

    def test_contraries(self):
        for text, told in (("a > b", ["b >= a"]), ("a >= b", ["b > a"]), ("a = b", ["a > b", "b > a"]),
                           ("0 > a", ["a >= 0"]), ("2 a + c = 0", ["2 a + c > 0", "0 > 2 a + c"])):
            found = Comparison.read(text).contraries()
            self.assertIs(type(found), tuple)
            self.assertEqual([str(other) for other in found], told)
        for text in ("a > b", "2 a >= b + c", "a = b", "b > 3 a", "0 >= a"):
            comparison = Comparison.read(text)
            for worths in itertools.product((-1, 0, 2), repeat=3):
                scale = Scale(dict(zip("abc", worths)))
                kept = [scale.keeps(other) for other in (comparison, *comparison.contraries())]
                self.assertEqual(kept.count(True), 1)

    def test_as_rows(self):
        pair = Pair.read("2 a : b + c")
        self.assertEqual([str(pair.as_rows(outcome)) for outcome in (1, 0, -1)],
                         ["2 a > b + c", "2 a = b + c", "b + c > 2 a"])
        self.assertEqual(str(pair.as_rows(outcome=0)), "2 a = b + c")
        self.assertEqual([str(Pair.read("a : 0").as_rows(outcome)) for outcome in (1, 0, -1)],
                         ["a > 0", "a = 0", "0 > a"])

    def test_compared(self):
        one, other = Balance.of("a", "a"), Balance({"a": 1, "b": Ratio(1, 2)})
        self.assertEqual(str(compared(one, ">", other)), "2 a > b")
        self.assertEqual(str(compared(other, ">=", one)), "b >= 2 a")
        self.assertEqual(str(compared(other=one, kind="=", one=other)), "2 a = b")
        self.assertEqual(str(compared(NOTHING, "=", one)), "a = 0")
        self.refuses(BadBalance, "one", lambda value: compared(value, "?", None), [is_a(Balance)])
        self.refuses(BadComparison, "kind", lambda value: compared(one, value, None), [is_kind])
        self.refuses(BadBalance, "other", lambda value: compared(one, ">", value), [is_a(Balance)])
        for kind in KINDS:
            self.raises(BadComparison, {"part": "balance"}, compared, one, kind, Balance({"a": 2}))

    def test_equality(self):
        texts = ("a > b", "a >= b", "a = b", "b > a", "2 a > b", "a > 0")
        for one in texts:
            for other in texts:
                self.assertIs(Comparison.read(one) == Comparison.read(other), one == other)
        self.assertEqual(Comparison(Balance({"a": -2, "b": 2}), "="), Comparison.read("a = b"))
        self.assertEqual(Pair.read("a : b"), Pair(Balance({"b": 5, "a": -5})))
        self.assertNotEqual(Pair.read("a : b"), Pair.read("2 a : b"))
        for value in ODD:
            if "Stubborn" not in repr(value):
                self.assertIs(COMPARISON == value, value is COMPARISON)
                self.assertIs(PAIR == value, value is PAIR)


if __name__ == "__main__":
    unittest.main()
