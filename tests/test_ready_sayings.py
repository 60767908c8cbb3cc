"""[8], scaleborn/ready_sayings.py."""

import itertools
import random
import unittest
from fractions import Fraction

from scaleborn.balances import Balance
from scaleborn.comparisons import compared
from scaleborn.errors import BadBalance, BadComparison, BadNumber, Twice
from scaleborn.ratios import Ratio
from scaleborn.ready_sayings import (
    greatest_is, is_times, lies_between, means, middle_is, more_even, rank_is, says_more, sole_greatest)
from scaleborn.sayings import at_least, both_of, either_of, exactly, no, of_comparison, yes
from scaleborn.scales import Scale
from support import ODD, Case, is_a, is_written

KINDS = (">", ">=", "=")
TESTS = {">": lambda one, other: one > other, ">=": lambda one, other: one >= other,
         "=": lambda one, other: one == other}
NAME = is_written("'a'")
LIST = is_written("[]", "()", "['a']", "('a', 'b')")


def is_kind(value):
    return isinstance(value, str) and value in KINDS


def some_scales(things, many=120):
    source = random.Random(51)
    found = [dict.fromkeys(things, 1)]
    for _ in range(many):
        found.append({thing: source.randint(-3, 4) for thing in things})
    return [(worths, Scale(worths)) for worths in found]


def more(one, kind, other):
    """x kind other, of things, made by hand."""
    if one == other:
        return no() if kind == ">" else yes()
    return of_comparison(compared(Balance.of(one), kind, Balance.of(other)))


def sums(ones, others):
    """The sum of some things above that of others, made by hand."""
    if sorted(ones) == sorted(others):
        return no()
    return of_comparison(compared(Balance.of(*ones), ">", Balance.of(*others)))


class ReadySayings(Case):
    def test_example(self):
        self.assertEqual(
            [str(says_more(Balance.of("a", "b"), ">", Balance.of("b", "a"))), str(means(["a", "b"], ">", ["c"])),
             str(is_times("a", Ratio(3, 2), "b"))],
            ["( or )", "[ a + b > 2 c ]", "[ 2 a = 3 b ]"])
        scale, three = Scale.read("a 4 b 1 c 2 d 2"), ["a", "b", "c"]
        self.assertEqual(
            [middle_is(three, ">", "d").holds(scale), middle_is(three, "=", "d").holds(scale),
             rank_is("c", three, 1).holds(scale), len(more_even("c", "d", "b", "c").pairs)],
            [False, True, True, 2])

    def test_says_more(self):
        source = random.Random(52)
        found = [Balance({thing: source.randint(-1, 1) for thing in "abc"}) for _ in range(25)]
        for one in found:
            for other in found:
                for kind in KINDS:
                    saying = says_more(one, kind, other)
                    if one == other:
                        self.assertEqual(saying, no() if kind == ">" else yes())
                    else:
                        self.assertEqual(saying, of_comparison(compared(one, kind, other)))
        self.assertEqual(str(says_more(other=Balance({}), kind=">=", one=Balance.of("a"))), "[ a >= 0 ]")

    def test_means(self):
        for ones, others in ((["a"], ["b"]), (["a", "b"], ["c"]), (["a", "a", "b"], ["c", "b"]), (["a", "b"], ["b", "a"]),
                             (["a", "a"], ["a"]), (("a", "b", "c", "d"), ("d", "a"))):
            for kind in KINDS:
                saying = means(ones, kind, others)
                self.assertLessEqual(len(saying), 1)
                for worths, scale in some_scales("abcd"):
                    told = [Fraction(sum([worths[thing] for thing in things]), len(things)) for things in (ones, others)]
                    self.assertIs(saying.holds(scale), TESTS[kind](*told))
        self.assertEqual(str(means(["a", "a", "b"], ">=", ["c"])), "[ 2 a + b >= 3 c ]")
        self.assertEqual(str(means(ones=["b", "a"], kind="=", others=["a", "b"])), "( and )")

    def test_middle_is(self):
        for things in (["a"], ["a", "b", "c"], ["c", "e", "b", "a", "d"], ("d", "a", "b")):
            for other in "df" if len(things) < 5 else "fa":
                half = (len(things) + 1) // 2
                for kind in (">", ">="):
                    saying = middle_is(things, kind, other)
                    self.assertEqual(saying, at_least(half, [more(thing, kind, other) for thing in things]))
                saying = middle_is(things, "=", other)
                self.assertEqual(saying, both_of([middle_is(things, ">=", other), ~middle_is(things, ">", other)]))
                for kind in KINDS:
                    saying = middle_is(things, kind, other)
                    for worths, scale in some_scales("abcdef", 60):
                        middle = sorted([worths[thing] for thing in things])[half - 1]
                        self.assertIs(saying.holds(scale), TESTS[kind](middle, worths[other]))
        self.assertEqual(str(middle_is(["a", "b", "c"], ">", "a")), "( some 2 ( or ) [ b > a ] [ c > a ] )")
        self.assertEqual(str(middle_is(things=["b"], kind="=", other="a")),
                         "( and ( some 1 [ b >= a ] ) ( not ( some 1 [ b > a ] ) ) )")

    def test_greatest(self):
        for function, kind in ((greatest_is, ">="), (sole_greatest, ">")):
            for thing, things in (("a", ["b", "c"]), ("a", ["c", "a", "b"]), ("b", ["b"]), ("b", []), ("d", ("a", "b", "c"))):
                others = [other for other in things if other != thing]
                saying = function(thing, things)
                self.assertEqual(saying, both_of([more(thing, kind, other) for other in others]))
                for worths, scale in some_scales("abcd", 60):
                    told = all([TESTS[kind](worths[thing], worths[other]) for other in others])
                    self.assertIs(saying.holds(scale), told)
        self.assertEqual(str(greatest_is(things=["a"], thing="b")), "[ b >= a ]")
        self.assertEqual(str(sole_greatest("a", ["c", "a", "b"])), "( and [ a > c ] [ a > b ] )")
        self.assertEqual(greatest_is("a", ["a"]), yes())

    def test_rank_is(self):
        for thing, things in (("a", ["b", "c", "d"]), ("c", ["d", "c", "a"]), ("a", []), ("a", ["a"])):
            others = [other for other in things if other != thing]
            for rank in range(5):
                saying = rank_is(thing, things, rank)
                self.assertEqual(saying, exactly(rank, [more(other, ">", thing) for other in others]))
                for worths, scale in some_scales("abcd", 60):
                    above = [other for other in others if worths[other] > worths[thing]]
                    self.assertIs(saying.holds(scale), len(above) == rank)
        self.assertEqual(str(rank_is(rank=0, things=["b"], thing="a")), "( and ( some 0 [ b > a ] ) ( not ( some 1 [ b > a ] ) ) )")

    def test_lies_between(self):
        for thing, one, other in itertools.product("abc", repeat=3):
            saying = lies_between(thing, one, other)
            self.assertEqual(saying, either_of([both_of([more(one, ">", thing), more(thing, ">", other)]),
                                                both_of([more(other, ">", thing), more(thing, ">", one)])]))
            for worths, scale in some_scales("abc", 60):
                low, high = sorted([worths[one], worths[other]])
                self.assertIs(saying.holds(scale), low < worths[thing] < high)
        self.assertEqual(str(lies_between(thing="b", one="a", other="c")),
                         "( or ( and [ a > b ] [ b > c ] ) ( and [ c > b ] [ b > a ] ) )")

    def test_more_even(self):
        for one, other, third, fourth in itertools.product("abcd", repeat=4):
            saying = more_even(one, other, third, fourth)
            self.assertEqual(saying, either_of([
                both_of([sums([third, other], [fourth, one]), sums([third, one], [fourth, other])]),
                both_of([sums([fourth, one], [third, other]), sums([fourth, other], [third, one])])]))
            for worths, scale in some_scales("abcd", 12):
                told = abs(worths[one] - worths[other]) < abs(worths[third] - worths[fourth])
                self.assertIs(saying.holds(scale), told)
        self.assertEqual(str(more_even(one="a", other="b", third="c", fourth="d")),
                         "( or ( and [ b + c > a + d ] [ a + c > b + d ] ) ( and [ a + d > b + c ] [ b + d > a + c ] ) )")

    def test_is_times(self):
        for ratio in (0, 1, -2, 3, Ratio(3, 2), Ratio(-1, 3), Ratio(1)):
            told = Fraction(ratio.top, ratio.bottom) if isinstance(ratio, Ratio) else ratio
            for one, other in (("a", "b"), ("b", "a"), ("a", "a")):
                for kind in KINDS:
                    saying = is_times(one, ratio, other, kind)
                    for worths, scale in some_scales("ab", 60):
                        self.assertIs(saying.holds(scale), TESTS[kind](worths[one], told * worths[other]))
                self.assertEqual(is_times(one, ratio, other), is_times(one, ratio, other, "="))
        self.assertEqual(str(is_times(kind=">", other="b", ratio=2, one="a")), "[ a > 2 b ]")
        self.assertEqual(str(is_times("a", 1, "a", ">=")), "( and )")
        self.assertEqual(str(is_times("a", 1, "a", ">")), "( or )")
        self.assertEqual(str(is_times("a", 0, "b")), "[ a = 0 ]")


class Errors(Case):
    def test_balances_and_lists(self):
        balance = Balance.of("a")
        self.refuses(BadBalance, "one", lambda value: says_more(value, None, None), [is_a(Balance)])
        self.refuses(BadComparison, "kind", lambda value: says_more(balance, value, None), [is_kind])
        self.refuses(BadBalance, "other", lambda value: says_more(balance, ">", value), [is_a(Balance)])
        some = is_written("['a']", "('a', 'b')")
        self.refuses(BadBalance, "ones", lambda value: means(value, None, None), [some])
        self.refuses(BadComparison, "kind", lambda value: means(["a"], value, None), [is_kind])
        self.refuses(BadBalance, "others", lambda value: means(["a"], ">", value), [some])

    def test_middle_is(self):
        self.refuses(BadBalance, "things", lambda value: middle_is(value, None, None), [LIST])
        for things in ([], ["a", "b"], ["a", "a"], ["a", "b", "c", "d"], ()):
            self.raises(BadNumber, {"part": "things"}, middle_is, things, None, None)
        self.refuses(BadComparison, "kind", lambda value: middle_is(["a", "a", "b"], value, None), [is_kind])
        self.refuses(BadBalance, "other", lambda value: middle_is(["a", "a", "b"], ">", value), [NAME])
        self.raises(Twice, {"name": "c"}, middle_is, ["b", "c", "c", "b", "a"], "=", "z")

    def test_greatest_and_rank(self):
        for function in (greatest_is, sole_greatest, lambda thing, things: rank_is(thing, things, 0)):
            self.refuses(BadBalance, "thing", lambda value: function(value, None), [NAME])
            self.refuses(BadBalance, "things", lambda value: function("a", value), [LIST])
            self.raises(Twice, {"name": "c"}, function, "a", ["b", "c", "c", "b"])
            self.raises(Twice, {"name": "a"}, function, "a", ["a", "b", "a"])
        for value in ODD:
            if type(value) is not int or value < 0:
                self.raises(BadNumber, {"part": "rank"}, rank_is, "a", ["b", "b"], value)
        self.refuses(BadBalance, "thing", lambda value: rank_is(value, None, None), [NAME])
        self.refuses(BadBalance, "things", lambda value: rank_is("a", value, None), [LIST])

    def test_things(self):
        for function, names in ((lies_between, ("thing", "one", "other")),
                                (more_even, ("one", "other", "third", "fourth"))):
            for at, name in enumerate(names):
                self.refuses(BadBalance, name, lambda value: function(*["a"] * at, value, *[None] * (len(names) - at - 1)),
                             [NAME])

    def test_is_times(self):
        self.refuses(BadBalance, "one", lambda value: is_times(value, None, None, None), [NAME])
        self.refuses(BadNumber, "ratio", lambda value: is_times("a", value, None, None), [is_a(int, Ratio)])
        self.refuses(BadBalance, "other", lambda value: is_times("a", 1, value, None), [NAME])
        self.refuses(BadComparison, "kind", lambda value: is_times("a", 1, "a", value), [is_kind])


if __name__ == "__main__":
    unittest.main()
