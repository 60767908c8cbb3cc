"""[8], scaleborn/sayings.py."""

import itertools
import random
import unittest

from scaleborn.balances import Balance
from scaleborn.comparisons import Comparison, Pair
from scaleborn.errors import BadComparison, BadNumber, BadSaying, BadScale, NoPair, NoThing, TooMany
from scaleborn.ratios import Ratio
from scaleborn.sayings import Saying, at_least, both_of, either_of, exactly, no, of_comparison, yes
from scaleborn.scales import Scale
from support import COMPARISON, ODD, SAYING, Case, Stubborn, is_a, is_written

TEXTS = ("a > b", "b > a", "a >= b", "b >= a", "a = b", "c > 0", "0 >= c", "2 a > b + c", "c = 0")
POOL = [Comparison.read(text) for text in TEXTS]
MANY_PARTS = {"what": "parts", "most": 2000}
MANY_WORDS = {"what": "words", "most": 4000}


def said(text):
    return of_comparison(Comparison.read(text))


def children(part):
    return {"holds": part[2:], "some": part[2:]}.get(part[0], part[1:])


def in_form(parts):
    """The one form, by the walk as [8] tells it."""
    found, numbers = [], {}

    def put(at):
        part = parts[at]
        new = [put(number) for number in children(part)]
        head = part[:2] if part[0] in ("holds", "some") else part[:1]
        made = (*head, *new)
        key = repr((head[0], str(head[1]) if len(head) > 1 else "", new))
        if key not in numbers:
            numbers[key] = len(found)
            found.append(made)
        return numbers[key]

    put(len(parts) - 1)
    return tuple(found)


def truth(parts, scale, at=-1):
    part = parts[at]
    if part[0] == "holds":
        return scale.keeps(part[1])
    told = [truth(parts, scale, number) for number in children(part)]
    return {"not": lambda: not told[0], "and": lambda: all(told), "or": lambda: any(told),
            "some": lambda: told.count(True) >= part[1]}[part[0]]()


def random_parts(source, many):
    parts = []
    for at in range(many):
        word = source.choice(["holds", "holds", "not", "and", "or", "some"]) if at else "holds"
        ahead = [source.randrange(at) for _ in range(source.randint(0, 3))] if at else []
        parts.append({"holds": lambda: ("holds", source.choice(POOL)), "not": lambda: ("not", source.randrange(at)),
                      "and": lambda: ("and", *ahead), "or": lambda: ("or", *ahead),
                      "some": lambda: ("some", source.randint(0, 3), *ahead)}[word]())
    return parts


def scales():
    for worths in itertools.product((-1, 0, 1, 2), repeat=3):
        yield Scale(dict(zip("abc", worths)))


class Sayings(Case):
    def test_example(self):
        more, not_less = said("a > b"), said("b >= c")
        fall = more & ~not_less
        self.assertEqual(
            [str(fall), [str(pair) for pair in fall.pairs], fall.things, fall.parts[3]],
            ["( and [ a > b ] ( not [ b >= c ] ) )", ["a : b", "b : c"], ("a", "b", "c"), ("and", 0, 2)])
        odd = Saying([("or",), ("holds", Comparison.read("c > a")), ("holds", Comparison.read("a > b")),
                      ("some", 2, 2, 1, 2)])
        self.assertEqual(
            [str(odd), odd.parts[2], odd.holds(Scale.read("a 1 b 0 c 0")), odd.truth_by({"a : c": -1, "a : b": 0})],
            ["( some 2 [ a > b ] [ c > a ] [ a > b ] )", ("some", 2, 0, 1, 0), True, False])
        self.assertEqual(
            [str(fall.renamed({"a": "x", "b": "y", "c": "y"})), yes() == both_of([]), Saying.read(str(odd)) == odd],
            ["( and [ x > y ] ( not ( and ) ) )", True, True])
        self.bad_text(Saying.read, "( and [ a > b ] ( or ) [ b > ] )", 13)

    def test_one_form(self):
        source = random.Random(41)
        for _ in range(600):
            parts = random_parts(source, source.randint(1, 14))
            saying = Saying(parts)
            self.assertEqual(saying.parts, in_form(parts))
            self.assertEqual(len(saying), len(saying.parts))
            self.assertTrue(all(type(part) is tuple for part in saying.parts))
            self.assertEqual(Saying(list(saying.parts)), saying)
            self.assertEqual(Saying(tuple([list(part) for part in parts])), saying)
            held = [part[1] for part in saying.parts if part[0] == "holds"]
            self.assertEqual(saying.comparisons, tuple(held))
            pairs = []
            for comparison in held:
                if comparison.pair not in pairs:
                    pairs.append(comparison.pair)
            self.assertEqual(saying.pairs, tuple(pairs))
            self.assertEqual(saying.things, tuple(sorted({thing for comparison in held for thing in comparison.things})))
            self.assertEqual(Saying.read(str(saying)), saying)

    def test_parts_in_any_order_and_parts_not_needed(self):
        one, other = ("holds", Comparison.read("a > b")), ("holds", Comparison.read("b > c"))
        told = Saying([one, other, ("and", 0, 1)])
        for parts in ([other, one, ("and", 1, 0)], [one, one, other, ("and", 1, 2)], [("or",), other, one, ("and", 2, 1)],
                      [one, ("not", 0), other, ("some", 5, 1), ("and", 0, 2)],
                      [other, one, ("and", 1, 0), ("and", 1, 0), ("and", 0, 1), ("and", 1, 0)]):
            self.assertEqual(Saying(parts), told)
        self.assertEqual(told.parts, (one, other, ("and", 0, 1)))
        for parts in ([other, one, ("and", 0, 1)], [one, other, ("or", 0, 1)], [one, other, ("some", 2, 0, 1)],
                      [one, other, ("and", 0, 1, 1)], [one]):
            self.assertNotEqual(Saying(parts), told)
        self.assertEqual(Saying([one, ("and", 0, 0)]).parts, (one, ("and", 0, 0)))
        self.assertEqual(Saying([one, ("or", 0)]).parts, (one, ("or", 0)))
        self.assertEqual(Saying([one, ("not", 0), ("not", 1)]).parts, (one, ("not", 0), ("not", 1)))
        self.assertEqual(Saying([("and",), ("some", 0), ("and", 0, 1)]).parts, (("and",), ("some", 0), ("and", 0, 1)))
        self.assertNotEqual(Saying([("some", 0)]), Saying([("some", 1)]))
        twice = Saying([("holds", Comparison.read("a = b")), ("holds", Comparison(Balance({"b": 2, "a": -2}), "=")),
                        ("and", 0, 1)])
        self.assertEqual(twice.parts[1:], (("and", 0, 0),))

    def test_what_is_passed_is_copied(self):
        parts = [["holds", COMPARISON], ["and", 0]]
        saying = Saying(parts)
        parts[1].append(0)
        parts.append(["not", 1])
        self.assertEqual(str(saying), "( and [ a > b ] )")

    def test_wrong_parts(self):
        self.refuses(BadSaying, "parts", Saying)
        good = ("holds", COMPARISON)
        for part in (None, 5, "holds", "and", (), [], ("holds",), ("holds", None), ("holds", "a > b"), good + good,
                     ("holds", COMPARISON, 0), ("not",), ("not", 0, 0), ("not", 1), ("not", -1), ("not", True),
                     ("not", None), ("not", "0"), ("and", 1), ("and", 0, 5), ("and", False), ("and", [0]), ("or", -1),
                     ("or", Ratio(0)), ("some",), ("some", -1), ("some", True), ("some", None, 0), ("some", 1, 1),
                     ("some", Ratio(1), 0), ("nor", 0), ("And",), (None,), (5,), ("", 0), (Stubborn(),), ("and", Stubborn()),
                     ("holds", Stubborn()), ("some", Stubborn()), {"and": 0}, {"and"}):
            with self.subTest(part=repr(part)):
                self.raises(BadSaying, {"part": "parts"}, Saying, [good, part])
                self.raises(BadSaying, {"part": "parts"}, Saying, [good, part, ("and",)])
        for parts in ([("and", 0)], [("not", 0)], [("and",), ("or", 1)], ()):
            self.raises(BadSaying, {"part": "parts"}, Saying, parts)

    def test_holds(self):
        source = random.Random(42)
        found = [Saying(random_parts(source, source.randint(1, 10))) for _ in range(80)]
        for scale in scales():
            outcomes = {str(comparison.pair): scale.outcome(comparison.pair) for comparison in POOL}
            for saying in found:
                told = truth(saying.parts, scale)
                self.assertIs(saying.holds(scale), told)
                self.assertIs(saying.truth_by(outcomes), told)
        for value in ODD:
            if not isinstance(value, Scale):
                self.raises(BadScale, {"part": "scale"}, SAYING.holds, value)
        self.raises(NoThing, {"name": "b"}, said("c > a + b").holds, Scale.read("a 1 d 1"))
        self.raises(NoThing, {"name": "b"}, both_of([said("a > y"), said("a > b")]).holds, Scale.read("a 1 d 1"))
        self.assertIs(yes().holds(Scale({})), True)
        self.assertIs(said("a > b").holds(scale=Scale.read("a 1 b 0 z 5")), True)

    def test_counts_of_some(self):
        one, other = said("a > 0"), said("b > 0")
        saying = at_least(3, [one, other, one, one])
        for worths, told in (((1, 0), True), ((0, 1), False), ((1, 1), True), ((0, 0), False)):
            self.assertIs(saying.holds(Scale(dict(zip("ab", worths)))), told)
        self.assertIs(at_least(0, []).holds(Scale({})), True)
        self.assertIs(at_least(1, []).holds(Scale({})), False)
        self.assertIs(at_least(10 ** 80, [one]).holds(Scale({"a": 1})), False)

    def test_truth_by(self):
        for text, told in (("a > b", (True, False, False)), ("b > a", (False, False, True)),
                           ("a >= b", (True, True, False)), ("b >= a", (False, True, True)),
                           ("a = b", (False, True, False))):
            self.assertEqual(tuple([said(text).truth_by({"a : b": outcome}) for outcome in (1, 0, -1)]), told)
            self.assertIs(said(text).truth_by(outcomes={"a : b": 0, "x": 1, None: -1, "b : c": 1}), told[1])
        for value in (None, [], "a : b", [("a : b", 1)], {"a : b": 2}, {"a : b": -2}, {"a : b": True}, {"a : b": None},
                      {"a : b": Ratio(1)}, {"a : b": 1, "x": None}, {"x": False}, {"a : b": 1, 5: 10 ** 30},
                      {"x": Stubborn()}, {"a : b": 1.0}):
            self.raises(BadNumber, {"part": "outcomes"}, SAYING.truth_by, value)
            self.raises(BadNumber, {"part": "outcomes"}, both_of([said("x > y"), SAYING]).truth_by, value)
        saying = either_of([said("b > a"), said("b > c"), said("a = c")])
        self.raises(NoPair, {"pair": "b : c"}, saying.truth_by, {"a : b": 1, "c : b": 0})
        self.raises(NoPair, {"pair": "a : b"}, saying.truth_by, {"b : a": 1})
        self.raises(NoPair, {"pair": "a : c"}, saying.truth_by, {"a : b": 1, "b : c": 0})
        self.assertIs(yes().truth_by({}), True)
        self.assertIs(no().truth_by({}), False)

    def test_renamed(self):
        saying = Saying.read("( or [ a > b ] [ b >= c ] [ a = c ] ( not [ 2 b > a + c ] ) )")
        for names, text in (
                ({}, str(saying)), ({"z": "a"}, str(saying)),
                ({"a": "c", "c": "a"}, "( or [ c > b ] [ b >= a ] [ a = c ] ( not [ 2 b > a + c ] ) )"),
                ({"a": "b"}, "( or ( or ) [ b >= c ] [ b = c ] ( not [ b > c ] ) )"),
                ({"a": "x", "b": "x", "c": "x"}, "( or ( or ) ( and ) ( and ) ( not ( or ) ) )"),
                ({"c": "b"}, "( or [ a > b ] ( and ) [ a = b ] ( not [ b > a ] ) )"),
                ({"b": "a"}, "( or ( or ) [ a >= c ] [ a = c ] ( not [ a > c ] ) )"),
                ({"a": "b", "b": "c", "c": "d"}, "( or [ b > c ] [ c >= d ] [ b = d ] ( not [ 2 c > b + d ] ) )")):
            found = saying.renamed(names)
            self.assertEqual(str(found), text)
            self.assertEqual(found.parts, in_form(found.parts))
        self.assertEqual(len(Saying.read("( and [ a > b ] [ c > b ] )").renamed(names={"c": "a"})), 2)
        self.assertEqual(len(Saying.read("( and [ a = b ] ( and ) )").renamed({"a": "b"})), 2)
        self.refuses(BadSaying, "names", SAYING.renamed, [is_written("{}", "{'a': 'b'}")])
        for names in ({"a": "B"}, {"A": "b"}, {1: "a"}, {"a": "b", "b": None}, [("a", "b")]):
            self.raises(BadSaying, {"part": "names"}, yes().renamed, names)

    def test_renamed_holds_where_it_held(self):
        source = random.Random(43)
        for _ in range(60):
            saying = Saying(random_parts(source, source.randint(1, 9)))
            names = {thing: source.choice("abcx") for thing in source.sample("abc", source.randint(0, 3))}
            found = saying.renamed(names)
            for worths in itertools.product((-1, 0, 2), repeat=4):
                scale = Scale(dict(zip("abcx", worths)))
                moved = Scale({thing: scale.worth(Balance.of(names.get(thing, thing))) for thing in "abc"})
                self.assertIs(found.holds(scale), saying.holds(moved))

    def test_equality(self):
        texts = ("( and )", "( or )", "[ a > b ]", "( not [ a > b ] )", "( and [ a > b ] )", "( and [ a > b ] [ a > b ] )",
                 "( some 1 [ a > b ] )", "( or [ a > b ] )", "( some 0 [ a > b ] )", "[ a >= b ]")
        for one in texts:
            for other in texts:
                self.assertIs(Saying.read(one) == Saying.read(other), one == other)
        for value in ODD:
            if "Stubborn" not in repr(value):
                self.assertIs(SAYING == value, value is SAYING)


class Functions(Case):
    def test_plain_ones(self):
        self.assertEqual((yes().parts, no().parts), ((("and",),), (("or",),)))
        self.assertEqual(of_comparison(comparison=COMPARISON).parts, (("holds", COMPARISON),))
        self.assertEqual((yes().comparisons, yes().pairs, yes().things, len(yes())), ((), (), (), 1))

    def test_operators(self):
        one, other = said("a > b"), Saying.read("( or [ b > c ] [ a > b ] )")
        self.assertEqual(str(one & other), "( and [ a > b ] ( or [ b > c ] [ a > b ] ) )")
        self.assertEqual(str(other | one), "( or ( or [ b > c ] [ a > b ] ) [ a > b ] )")
        self.assertEqual(str(~other), "( not ( or [ b > c ] [ a > b ] ) )")
        self.assertEqual(str(~~one), "( not ( not [ a > b ] ) )")
        self.assertEqual((one & one).parts, (("holds", COMPARISON), ("and", 0, 0)))
        self.assertEqual((other | one).parts[2:], (("or", 0, 1), ("or", 2, 1)))
        self.assertEqual(len(one & other), 4)
        self.refuses(BadSaying, "other", lambda value: SAYING & value, [is_a(Saying)])
        self.refuses(BadSaying, "other", lambda value: SAYING | value, [is_a(Saying)])

    def test_lists(self):
        one, other = said("a > b"), said("b > c")
        for function, word in ((both_of, "and"), (either_of, "or")):
            self.assertEqual(str(function([one, other, one])), f"( {word} [ a > b ] [ b > c ] [ a > b ] )")
            self.assertEqual(function([one]), one)
            self.assertEqual(function(sayings=(other, one)).parts[2], (word, 0, 1))
            self.assertEqual(function([]).parts, ((word,),))
            self.assertEqual(str(function([function([one, other]), one])), f"( {word} ( {word} [ a > b ] [ b > c ] ) [ a > b ] )")
        self.assertEqual(str(at_least(2, [one, other, one])), "( some 2 [ a > b ] [ b > c ] [ a > b ] )")
        self.assertEqual(str(at_least(1, [one])), "( some 1 [ a > b ] )")
        self.assertEqual(str(at_least(sayings=(), number=0)), "( some 0 )")
        self.assertEqual(str(exactly(1, [one, other])),
                         "( and ( some 1 [ a > b ] [ b > c ] ) ( not ( some 2 [ a > b ] [ b > c ] ) ) )")
        self.assertEqual(exactly(number=1, sayings=[one, other]).parts[2:],
                         (("some", 1, 0, 1), ("some", 2, 0, 1), ("not", 3), ("and", 2, 4)))
        self.assertEqual(str(exactly(0, [])), "( and ( some 0 ) ( not ( some 1 ) ) )")

    def test_lists_hold(self):
        texts = ("a > 0", "b > 0", "a > b", "a = b")
        for scale in scales():
            kept = [scale.keeps(Comparison.read(text)) for text in texts]
            sayings = [said(text) for text in texts]
            self.assertIs(both_of(sayings).holds(scale), all(kept))
            self.assertIs(either_of(sayings).holds(scale), any(kept))
            for number in range(6):
                self.assertIs(at_least(number, sayings).holds(scale), kept.count(True) >= number)
                self.assertIs(exactly(number, sayings).holds(scale), kept.count(True) == number)

    def test_errors(self):
        self.refuses(BadComparison, "comparison", of_comparison, [is_a(Comparison)])
        right = [lambda value: isinstance(value, (list, tuple)) and (not value or value[0] is SAYING)]
        for function in (both_of, either_of, lambda value: at_least(0, value), lambda value: exactly(0, value)):
            self.refuses(BadSaying, "sayings", function, right)
            self.raises(BadSaying, {"part": "sayings"}, function, [SAYING, None])
            self.raises(BadSaying, {"part": "sayings"}, function, SAYING)
        count = [lambda value: type(value) is int and value >= 0]
        for function in (at_least, exactly):
            self.refuses(BadNumber, "number", lambda value: function(value, None), count)
            self.raises(BadNumber, {"part": "number"}, function, -1, [SAYING])


class Bounds(Case):
    def test_parts(self):
        chain = [("holds", COMPARISON)] + [("not", at) for at in range(1999)]
        saying = Saying(chain)
        self.assertEqual((len(saying), saying.parts), (2000, tuple(chain)))
        self.assertIs(saying.holds(Scale.read("a 1 b 0")), False)
        self.assertIs(saying.truth_by({"a : b": 1}), False)
        self.assertEqual(saying.renamed({"a": "z"}).parts[1:], saying.parts[1:])
        self.raises(TooMany, MANY_PARTS, Saying, [*chain, ("not", 1999)])
        self.raises(TooMany, MANY_PARTS, lambda: ~saying)
        self.raises(TooMany, MANY_PARTS, lambda: saying & saying)
        self.raises(TooMany, MANY_PARTS, lambda: SAYING | saying)
        for function in (both_of, either_of, lambda told: at_least(1, told), lambda told: exactly(1, told)):
            self.raises(TooMany, MANY_PARTS, function, [saying, saying])
        self.assertEqual(both_of([saying]), saying)
        shorter = Saying(chain[:1999])
        self.assertEqual(len(~shorter), 2000)
        self.assertEqual(len(shorter & shorter), 2000)
        self.assertEqual(len(at_least(1, [shorter] * 3)), 2000)
        self.raises(TooMany, MANY_PARTS, exactly, 1, [shorter])
        self.assertEqual(len(exactly(1, [Saying(chain[:1996])])), 2000)
        self.raises(BadSaying, {"part": "parts"}, Saying, [*chain, ("not", 1999), ("not", 2001)])

    def test_parts_are_counted_in_one_form(self):
        many = [("holds", COMPARISON)] * 5000 + [("and", *range(5000))]
        self.assertEqual(Saying(many).parts[1:], (("and", *[0] * 5000),))
        self.assertEqual(len(Saying([("not", at - 1) if at else ("and",) for at in range(2500)] + [("not", 1998)])), 2000)
        self.raises(TooMany, MANY_PARTS, Saying, [("not", at - 1) if at else ("and",) for at in range(2001)])
        wide = [("some", at) for at in range(2000)]
        self.raises(TooMany, MANY_PARTS, Saying, [*wide, ("and", *range(2000))])
        self.assertEqual(len(Saying([*wide, ("and", *range(1999))])), 2000)

    def test_long_chains(self):
        for word in ("and", "or"):
            chain = [("holds", COMPARISON)] + [(word, at, at) for at in range(1999)]
            self.assertIs(Saying(chain).holds(Scale.read("a 1 b 0")), True)
            self.raises(TooMany, MANY_WORDS, str, Saying(chain))
        ladder = [("holds", COMPARISON), ("not", 0)] + [("some", 1, at, at + 1) for at in range(1998)]
        self.assertIs(Saying(ladder).holds(Scale.read("a 1 b 0")), True)
        deep = [("and",)]
        for at in range(3000):
            deep.append(("not", at))
        self.raises(TooMany, MANY_PARTS, Saying, deep)

    def test_words(self):
        four = [("holds", Comparison.read("a > b"))]
        # ( and with 799 comparisons of five words each has 3 + 3995 words.
        saying = Saying([*four, ("and", *[0] * 799)])
        self.assertEqual(len(str(saying).split(" ")), 3998)
        for text in ("( and )", "( or )"):
            self.assertEqual(Saying.read(text).parts, ((text.split(" ")[1],),))
        exact = Saying([*four, ("and",), ("and", *[0] * 798, 1, 1)])
        self.assertEqual(len(str(exact).split(" ")), 3 + 3990 + 6)
        whole = Saying([*four, ("some", 2, *[0] * 798, 0), ("not", 1)])
        self.raises(TooMany, MANY_WORDS, str, whole)
        four_thousand = Saying([*four, ("some", 0), ("and", *[0] * 798, 1), ("not", 2)])
        self.assertEqual(len(str(four_thousand).split(" ")), 3 + 3 + 3990 + 4)
        self.assertEqual(Saying.read(str(four_thousand)), four_thousand)
        over = Saying([*four, ("some", 0), ("and", *[0] * 798, 1), ("some", 1, 2)])
        self.raises(TooMany, MANY_WORDS, str, over)
        nots = Saying([("and",)] + [("not", at) for at in range(1332)])
        self.assertEqual(len(str(nots).split(" ")), 3999)
        self.raises(TooMany, MANY_WORDS, str, ~nots)

    def test_a_word_more_than_4000(self):
        inside = "[ a > b ] " * 798
        text = f"( not ( and {inside}( some 0 ) ) )"
        self.assertEqual(len(text.split(" ")), 4000)
        self.assertEqual(str(Saying.read(text)), text)
        self.bad_text(Saying.read, text + " )", 4000)
        self.bad_text(Saying.read, f"( some 1 ( and {inside}( some 0 ) ) )", 4000)
        self.bad_text(Saying.read, f"( and {inside}" + "[ a > b ] " * 10 + ")", 4000)
        self.bad_text(Saying.read, f"( and {inside}[ a > b ] [ a + b + c", 4000)
        self.bad_text(Saying.read, f"( and {inside}[ a > b ] [ a + b", 4000)
        self.bad_text(Saying.read, f"( and {inside}[ a > b ] [ a > b + c + d + e ] )", 4000)
        self.bad_text(Saying.read, f"( and {inside}( or ) [ 2 a > 2 c", 4000)
        self.bad_text(Saying.read, f"( and {inside}? " + "[ a > b ] " * 10 + ")", 3992)
        self.bad_text(Saying.read, "( and " + "( and " * 20 + ") " * 9000 + ")", 63)

    def test_open_brackets(self):
        for head in ("and", "or", "not", "some 1"):
            words = len(head.split(" ")) + 1
            text = f"( {head} " * 59 + "[ a > b ]" + " )" * 59
            self.assertEqual(str(Saying.read(text)), text)
            text = f"( {head} " * 59 + "( and )" + " )" * 59
            self.assertEqual(str(Saying.read(text)), text)
            self.bad_text(Saying.read, f"( {head} " * 60 + "[ a > b ]" + " )" * 60, 60 * words)
            self.bad_text(Saying.read, f"( {head} " * 60 + "( and )" + " )" * 60, 60 * words)
            self.bad_text(Saying.read, f"( {head} " * 61 + ") " * 60 + ")", 60 * words)
        text = "( and " * 60 + " ".join([")"] * 60)
        self.assertEqual(str(Saying.read(text)), text)
        side = "( and " + "( or [ a > b ] ) " * 70 + ")"
        self.assertEqual(str(Saying.read(side)), side)
        self.bad_text(Saying.read, "( and " * 60 + "x", 120)

    def test_words_that_cannot_stand(self):
        for text, word in (
                ("", 0), ("a > b", 0), ("[ ]", 1), ("[", 1), ("[ a > b", 4), ("[ a > ]", 3), ("[ a > b ] ]", 5),
                ("[ a > b ] [ a > b ]", 5), ("( )", 1), ("(", 1), ("( and", 2), ("( not )", 2), ("( not", 2),
                ("( not [ a > b ] [ a > b ] )", 7), ("( not [ a > b ]", 7), ("( some )", 2), ("( some", 2), ("( some 1", 3),
                ("( some -1 )", 2), ("( some 01 )", 2), ("( some [ a > b ] )", 2), ("( some 1/2 )", 2), ("( xor )", 1),
                ("( and ) )", 3), ("( and ) ( and )", 3), ("[ 2 a > 2 b ]", 5), ("[ 2 a > 2 b", 5), ("[ 2 a > 2 b + ]", 7),
                ("[ a > b c ]", 4), ("[ a : b ]", 2), ("( and [ a > b ] , )", 7), ("( and  )", 2), (" ( and )", 0),
                ("[ [ a > b ] ]", 1), ("[ ( and ) ]", 1), ("] [ a > b ]", 0), (") (", 0), ("[ a > b ( ]", 4),
                ("( and a )", 2), ("( and [ a > b ] 0 )", 7), ("( not ( some 1 ) x", 6), ("and", 0), ("[ a = b ] x", 5),
                ("[ 0 > 0 ]", 3), ("[ b = a ]", 3), ("( or [ a > a ] )", 5)):
            self.bad_text(Saying.read, text, word)
        self.assertEqual(str(Saying.read("[ and + not > or + some ]")), "[ and + not > or + some ]")


if __name__ == "__main__":
    unittest.main()
