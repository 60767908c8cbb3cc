"""[4], scaleborn/balances.py."""

import random
import unittest
from fractions import Fraction
from math import gcd

from scaleborn.balances import Balance, mean_of
from scaleborn.errors import BadBalance, BadNumber
from scaleborn.ratios import Ratio
from support import BALANCE, ODD, Case, is_a, is_written

THINGS = ("a", "b", "c", "d0")


def told(balance):
    """The numbers of a balance as fractions."""
    return {thing: Fraction(balance.number_of(thing).top, balance.number_of(thing).bottom)
            for thing in balance.things}


def made(numbers):
    return Balance({thing: Ratio(number.numerator, number.denominator) for thing, number in numbers.items()})


def some_balances(many=60):
    source = random.Random(4)
    found = [{}]
    for _ in range(many):
        found.append({thing: Fraction(source.randint(-9, 9), source.randint(1, 6))
                      for thing in source.sample(THINGS, source.randint(1, 4))})
    return found


def bare(numbers):
    return {thing: number for thing, number in numbers.items() if number}


class Balances(Case):
    def test_example(self):
        one = Balance({"a": 2, "b": Ratio(-1, 2), "c": 0})
        self.assertEqual([str(one), str(one.least()), str(one * -2), str(mean_of(["a", "b", "a"]))],
                         ["2 a + -1/2 b", "4 a + -1 b", "-4 a + b", "2/3 a + 1/3 b"])

    def test_made(self):
        for numbers in some_balances():
            balance = made(numbers)
            self.assertEqual(told(balance), bare(numbers))
            self.assertEqual(balance.things, tuple(sorted(bare(numbers))))
            self.assertIs(balance.is_nothing, not bare(numbers))
            for thing in THINGS:
                self.assertIs(type(balance.number_of(thing)), Ratio)
        self.assertEqual(Balance(numbers={"b": 1, "a": Ratio(0), "c": 0}).things, ("b",))

    def test_wrong_numbers(self):
        self.refuses(BadBalance, "numbers", Balance, [is_written("{}", "{'a': 1}")])
        for value in ({"a": True}, {"a": 1, "B": 1}, {"a": 1, 2: 1}, {"a": "1"}, {("a",): 1}, {"a": 0, "b": None},
                      {None: 1}, {"a": 1.0}, [("a", 1)], {"abcdefghijklm": 0}):
            self.raises(BadBalance, {"part": "numbers"}, Balance, value)

    def test_what_is_passed_is_copied(self):
        numbers = {"b": 1, "a": 2}
        balance = Balance(numbers)
        numbers["c"] = 3
        numbers["a"] = 5
        self.assertEqual(str(balance), "2 a + b")
        self.assertEqual(list(numbers), ["b", "a", "c"])

    def test_number_of(self):
        balance = Balance({"a": Ratio(1, 2)})
        for value in ODD:
            number = balance.number_of(value)
            self.assertEqual(number, Ratio(1, 2) if isinstance(value, str) and value == "a" else 0)
            self.assertIs(type(number), Ratio)
        self.assertEqual(balance.number_of(thing="a"), Ratio(1, 2))

    def test_gains_losses_least(self):
        for numbers in some_balances():
            balance = made(numbers)
            self.assertEqual(told(balance.gains()), {t: n for t, n in numbers.items() if n > 0})
            self.assertEqual(told(balance.losses()), {t: -n for t, n in numbers.items() if n < 0})
            least = told(balance.least())
            self.assertEqual(sorted(least), sorted(bare(numbers)))
            if least:
                self.assertTrue(all(n.denominator == 1 for n in least.values()))
                self.assertEqual(gcd(*[n.numerator for n in least.values()]), 1)
                thing = balance.things[0]
                factor = least[thing] / numbers[thing]
                self.assertGreater(factor, 0)
                self.assertEqual(least, {t: n * factor for t, n in bare(numbers).items()})
        self.assertEqual(Balance({}).least(), Balance({}))
        self.assertIs(Balance({}).gains().is_nothing, True)

    def test_arithmetic(self):
        found = some_balances(25)
        for one in found:
            self.assertEqual(told(-made(one)), {t: -n for t, n in bare(one).items()})
            for factor in (0, 1, -1, 3, Fraction(-2, 3), Fraction(5, 4)):
                ratio = Ratio(factor.numerator, factor.denominator) if factor not in (0, 1, -1, 3) else factor
                self.assertEqual(told(made(one) * ratio), bare({t: n * factor for t, n in one.items()}))
            for other in found:
                both = {t: one.get(t, 0) + other.get(t, 0) for t in THINGS}
                less = {t: one.get(t, 0) - other.get(t, 0) for t in THINGS}
                self.assertEqual(told(made(one) + made(other)), bare(both))
                self.assertEqual(told(made(one) - made(other)), bare(less))
        self.refuses(BadBalance, "other", lambda value: BALANCE + value, [is_a(Balance)])
        self.refuses(BadBalance, "other", lambda value: BALANCE - value, [is_a(Balance)])
        self.refuses(BadNumber, "ratio", lambda value: BALANCE * value, [is_a(int, Ratio)])
        self.refuses(BadNumber, "ratio", lambda value: Balance({}) * value, [is_a(int, Ratio)])

    def test_renamed(self):
        balance = Balance({"a": 2, "b": Ratio(-1, 2), "c": 1})
        for names, text in (({}, "2 a + -1/2 b + c"), ({"a": "b", "b": "a"}, "-1/2 a + 2 b + c"),
                            ({"a": "b"}, "3/2 b + c"), ({"a": "x", "b": "x", "c": "x"}, "5/2 x"),
                            ({"z": "y", "q": "a"}, "2 a + -1/2 b + c"), ({"a": "b", "b": "c", "c": "a"}, "a + 2 b + -1/2 c")):
            self.assertEqual(str(balance.renamed(names)), text)
        self.assertEqual(str(Balance({"a": 1, "b": -1}).renamed({"a": "b"})), "0")
        self.assertEqual(str(Balance({"a": 1, "b": -1, "c": 3}).renamed(names={"b": "a"})), "3 c")
        self.refuses(BadBalance, "names", BALANCE.renamed, [is_written("{}", "{'a': 'b'}")])
        for names in ({"a": "B"}, {"A": "b"}, {"a": "b", 1: "c"}, {"a": ["b"]}, [("a", "b")]):
            self.raises(BadBalance, {"part": "names"}, BALANCE.renamed, names)

    def test_of_and_mean_of(self):
        self.assertEqual(str(Balance.of()), "0")
        self.assertEqual(str(Balance.of("b", "a", "b")), "a + 2 b")
        self.assertEqual(str(mean_of(("c", "a", "c", "c"))), "1/4 a + 3/4 c")
        self.assertEqual(str(mean_of(things=["a"])), "a")
        self.refuses(BadBalance, "things", Balance.of, [is_written("'a'")])
        self.refuses(BadBalance, "things", lambda value: Balance.of("a", value), [is_written("'a'")])
        self.refuses(BadBalance, "things", mean_of, [is_written("['a']", "('a', 'b')")])

    def test_equality(self):
        found = some_balances(30)
        for one in found:
            for other in found:
                self.assertIs(made(one) == made(other), bare(one) == bare(other))
        self.assertEqual(Balance({"a": 1, "b": 0}), Balance({"a": Ratio(2, 2)}))
        for value in ODD:
            if value is not BALANCE and "Stubborn" not in repr(value):
                self.assertIs(BALANCE == value, False)

    def test_texts(self):
        for numbers in some_balances():
            balance = made(numbers)
            self.assertEqual(Balance.read(str(balance)), balance)
        self.assertEqual(str(Balance({})), "0")
        self.assertEqual(str(Balance({"b": 1, "a": -1, "c": Ratio(5, 3)})), "-1 a + b + 5/3 c")
        for text in ("a", "-1 a", "1/2 a", "9" * 60 + " a", "a + b", "zzzzzzzzzzzz"):
            self.assertEqual(str(Balance.read(text)), text)
        for text, word in (
                ("", 0), ("1 a", 0), ("0 a", 1), ("0 0", 1), ("0 +", 1), ("a b", 1), ("a +", 2), ("a + a", 2),
                ("b + a", 2), ("2", 1), ("2 3 a", 1), ("2 a + 0", 3), ("2 a + 1 b", 3), ("a + 0 b", 2), ("a  + b", 1),
                (" a", 0), ("a ", 1), ("4/2 a", 0), ("9" * 61 + " a", 0), ("a + b + b", 4), ("a + b + 2", 5),
                ("a + b + 2 b", 5), ("a - b", 1), ("A", 0), ("zzzzzzzzzzzz + a", 1), ("a + 2 +", 3), ("-0 a", 0)):
            self.bad_text(Balance.read, text, word)
        for value in ODD:
            if not isinstance(value, str):
                self.bad_text(Balance.read, value, 0)


if __name__ == "__main__":
    unittest.main()
