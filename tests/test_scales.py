"""[4], scaleborn/scales.py."""

import random
import unittest
from fractions import Fraction

from scaleborn.balances import Balance
from scaleborn.comparisons import Comparison, Pair, compared
from scaleborn.errors import BadBalance, BadComparison, BadNumber, BadPair, BadScale, NoThing, Twice, Unlike
from scaleborn.ratios import Ratio
from scaleborn.scales import Scale
from scaleborn.sorts import Sort
from support import ODD, PAIR, SCALE, Case, is_a, is_written


def ratio(number):
    return Ratio(number.numerator, number.denominator)


class Scales(Case):
    def test_example(self):
        one = Balance({"a": 2, "b": Ratio(-1, 2), "c": 0})
        first = compared(Balance.of("a", "b"), ">", Balance({"c": 2}))
        sort = Sort([Pair.read("a : b"), Pair.read("2 a : b + c")])
        scale = Scale({"b": 2, "a": Ratio(3, 2), "c": 0})
        self.assertEqual([scale.worth(one), scale.outcomes(sort), scale.keeps(first), str(scale.only(["c", "a"]))],
                         [2, (-1, 1), True, "a 3/2 c 0"])

    def test_made(self):
        numbers = {"b": 2, "a": Ratio(4, 6), "c": 0}
        scale = Scale(numbers)
        self.assertEqual(scale.things, ("a", "b", "c"))
        self.assertEqual(str(scale), "a 2/3 b 2 c 0")
        numbers["d"] = 1
        self.assertEqual(scale.things, ("a", "b", "c"))
        self.assertEqual((Scale({}).things, str(Scale(numbers={}))), ((), "-"))
        self.refuses(BadScale, "numbers", Scale, [is_written("{}", "{'a': 1}")])
        for value in ({"a": True}, {"A": 1}, {"a": 1, 2: 3}, {"a": "1"}, {"a": None}, [("a", 1)]):
            self.raises(BadScale, {"part": "numbers"}, Scale, value)

    def test_worths_and_outcomes(self):
        source = random.Random(9)
        for _ in range(300):
            worths = {thing: Fraction(source.randint(-4, 4), source.randint(1, 3)) for thing in "abcd"}
            scale = Scale({thing: ratio(worth) for thing, worth in worths.items()})
            numbers = {thing: Fraction(source.randint(-3, 3), source.randint(1, 2)) for thing in "bda"}
            balance = Balance({thing: ratio(number) for thing, number in numbers.items()})
            told = sum([numbers[thing] * worths[thing] for thing in numbers], Fraction(0))
            self.assertEqual(scale.worth(balance), ratio(told))
            self.assertIs(type(scale.worth(balance)), Ratio)
            if not balance.is_nothing:
                pair = Pair(balance)
                turn = 1 if numbers[balance.things[0]] > 0 else -1
                sign = (told > 0) - (told < 0)
                self.assertEqual(scale.outcome(pair), sign * turn)
                for kind, kept in ((">", told > 0), (">=", told >= 0), ("=", told == 0)):
                    self.assertIs(scale.keeps(Comparison(balance, kind)), kept)
                self.assertIs(scale.keeps(pair.as_rows(scale.outcome(pair))), True)
                self.assertEqual(scale.outcomes([pair, PAIR, pair]), (sign * turn, scale.outcome(PAIR), sign * turn))
        self.assertEqual(Scale({}).worth(Balance({})), 0)
        self.assertEqual(SCALE.outcomes(pairs=[]), ())
        self.assertEqual(SCALE.outcomes((PAIR,)), (1,))

    def test_errors(self):
        self.refuses(BadBalance, "balance", SCALE.worth, [is_a(Balance)])
        self.refuses(BadPair, "pair", SCALE.outcome, [is_a(Pair)])
        self.refuses(BadComparison, "comparison", SCALE.keeps, [is_a(Comparison)])
        self.refuses(BadPair, "pairs", SCALE.outcomes, [
            is_a(Sort), lambda value: isinstance(value, (list, tuple)) and (not value or value[0] is PAIR)])
        self.refuses(BadBalance, "things", SCALE.only, [is_written("[]", "()", "['a']", "('a', 'b')")])
        self.refuses(BadNumber, "ratio", lambda value: SCALE * value, [is_a(int, Ratio)])
        self.refuses(BadScale, "other", lambda value: SCALE + value, [is_a(Scale)])
        self.raises(BadPair, {"part": "pairs"}, SCALE.outcomes, [Pair.read("y : z"), None])

    def test_things_that_lack(self):
        self.raises(NoThing, {"name": "c"}, SCALE.worth, Balance.of("z", "a", "c"))
        self.raises(NoThing, {"name": "c"}, SCALE.outcome, Pair.read("a + z : c"))
        self.raises(NoThing, {"name": "c"}, SCALE.keeps, Comparison.read("z > c"))
        self.raises(NoThing, {"name": "x"}, SCALE.outcomes, [PAIR, Pair.read("x : z"), Pair.read("b : c")])
        self.raises(NoThing, {"name": "x"}, SCALE.outcomes, Sort([Pair.read("x : z"), Pair.read("b : c")]))
        self.raises(NoThing, {"name": "z"}, SCALE.only, ["a", "z", "c"])
        self.raises(Twice, {"name": "z"}, SCALE.only, ["c", "z", "a", "z", "a"])

    def test_only(self):
        scale = Scale.read("a 1 b 2 c 3")
        self.assertEqual(str(scale.only(["c", "a"])), "a 1 c 3")
        self.assertEqual(str(scale.only(things=())), "-")

    def test_multiples_and_sums(self):
        one, other = Scale.read("a 1/2 b -3"), Scale.read("a 3/2 b 3")
        self.assertEqual(str(one * 2), "a 1 b -6")
        self.assertEqual(str(one * Ratio(-2, 3)), "a -1/3 b 2")
        self.assertEqual(str(one * 0), "a 0 b 0")
        self.assertEqual(str(one + other), "a 2 b 0")
        self.assertEqual(Scale({}) + Scale({}), Scale({}))
        for told in ("a 1", "a 1 b 2 c 3", "a 1 c 2", "-"):
            self.raises(Unlike, {"what": "things"}, lambda text: one + Scale.read(text), told)

    def test_equality_and_texts(self):
        texts = ("-", "a 0", "a 1", "a 0 b 0", "a 3/2 b -1", "b 0")
        for one in texts:
            self.assertEqual(str(Scale.read(one)), one)
            for other in texts:
                self.assertIs(Scale.read(one) == Scale.read(other), one == other)
        for value in ODD:
            if "Stubborn" not in repr(value):
                self.assertIs(SCALE == value, value is SCALE)


if __name__ == "__main__":
    unittest.main()
