"""[7] and scaleborn/charts.py."""

import itertools
import random
import time
import types

from scaleborn.balances import Balance
from scaleborn.books import Book
from scaleborn.charts import Chart, charted
from scaleborn.comparisons import Comparison, Pair
from scaleborn.errors import (
    BadBook, BadNumber, BadPair, BadSaying, BadScale, Impossible, NoPair, NoThing, TooMany, Twice)
from scaleborn.hulls import are_one, is_held_alike, is_open
from scaleborn.papers import Denial, Paper
from scaleborn.ratios import Ratio
from scaleborn.ready_sorts import cells_of, copies_of, gaps_of, heaps_of, order_of
from scaleborn.rounds import fit, is_possible
from scaleborn.sayings import Saying, of_comparison
from scaleborn.scales import Scale
from scaleborn.sorts import Sort
from support import BOOK, CHART, ODD, PAIR, SCALE, Case, is_a
from test_rounds import is_round, random_book

IMPOSSIBLE = Book.read("a b | a > b , b > a")


def random_pairs(source, things, many, most=2):
    """Different pairs, as many as come."""
    found = {}
    for _ in range(many):
        balance = Balance({thing: source.randint(-most, most) for thing in things})
        if not balance.is_nothing:
            found[str(Pair(balance))] = Pair(balance)
    return list(found.values())


def cases(many, seed, rows=5, pairs=5):
    """Possible books of 1 to 4 things, and pairs."""
    source = random.Random(seed)
    while many > 0:
        book = random_book(source, list("abcd"[:source.randint(1, 4)]), source.randint(0, rows), 2)
        if is_possible(book):
            yield book, random_pairs(source, book.things, source.randint(0, pairs))
            many -= 1


def all_lists(book, pairs):
    """The outcome lists of the pairs, by asking for each tuple whether the book has such a scale."""
    found = [()]
    for pair in pairs:
        found = [(*told, outcome) for told in found for outcome in (1, 0, -1)]
        found = [told for told in found if is_possible(with_outcomes(book, pairs, told))]
    return tuple(sorted(found, reverse=True))


def with_outcomes(book, pairs, outcomes):
    """The book with rows that just the scales with these outcomes keep."""
    return book.with_rows(*[pair.as_rows(outcome) for pair, outcome in zip(pairs, outcomes)])


def longer(book, pairs, outcomes):
    """As with_outcomes, perhaps with more rows than a book may have."""
    return types.SimpleNamespace(rows=[*book.rows, *[pair.as_rows(outcome) for pair, outcome in zip(pairs, outcomes)]])


def is_tree(book, pairs, lists, tree, outcomes=()):
    """Whether a value is a right tree behind the outcomes, as [7] tells it."""
    if type(tree) is not tuple or len(tree) == 0 or type(tree[0]) is not str:
        return False
    if tree[0] == "list":
        return (len(tree) == 2 and type(tree[1]) is int and 0 <= tree[1] < len(lists)
                and len(outcomes) == len(pairs) and lists[tree[1]] == outcomes)
    if tree[0] == "barred":
        return len(tree) == 2 and type(tree[1]) is tuple and is_round(longer(book, pairs, outcomes), tree[1])
    if tree[0] != "branch" or len(tree) != 4 or len(outcomes) == len(pairs):
        return False
    return any(told[:len(outcomes)] == outcomes for told in lists) and all(
        is_tree(book, pairs, lists, further, (*outcomes, outcome)) for further, outcome in zip(tree[1:], (1, 0, -1)))


def random_saying(source, pairs, size=4):
    """A saying about some of the pairs."""
    parts = []
    for _ in range(source.randint(1, 3)):
        balance = source.choice(pairs).balance * source.choice([1, -1])
        parts.append(("holds", Comparison(balance, source.choice([">", ">=", "="]))))
    for _ in range(size):
        numbers = [source.randrange(len(parts)) for _ in range(source.randint(1, 3))]
        parts.append(source.choice([("not", numbers[0]), ("and", *numbers), ("or", *numbers),
                                    ("some", source.randint(0, 3), *numbers)]))
    return Saying(parts)


class Charts(Case):
    def check(self, book, pairs):
        chart = charted(book, pairs)
        self.assertIs(type(chart), Chart)
        self.assertEqual((chart.word, bool(chart)), ("chart", True))
        self.assertEqual(chart.parts, (chart.pairs, chart.lists, chart.scales, chart.tree))
        self.assertEqual(chart.pairs, tuple(pairs))
        self.assertEqual(chart.lists, tuple(sorted(set(chart.lists), reverse=True)))
        self.assertEqual(len(chart.scales), len(chart.lists))
        for told, scale in zip(chart.lists, chart.scales):
            self.assertIs(type(told), tuple)
            self.assertEqual(scale.things, book.things)
            self.assertTrue(book.keeps(scale))
            self.assertEqual(tuple(scale.worth(pair.balance).sign for pair in pairs), told)
        self.assertTrue(is_tree(book, tuple(pairs), chart.lists, chart.tree))
        self.assertEqual(charted(Book(book.things[::-1], list(book.rows)), tuple(pairs)), chart)
        return chart

    def test_example(self):
        two, one, twice = Book(["a", "b"]).above_nothing(), Pair.read("a : b"), Pair.read("a : 2 b")
        chart = charted(two, [one, twice])
        self.assertEqual([chart.lists, len(chart), chart.number_of([1, -1]), chart.has((0, 0))],
                         [((1, 1), (1, 0), (1, -1), (0, -1), (-1, -1)), 5, 2, False])
        self.assertEqual(
            [chart.list_of(Scale({"a": 3, "b": 2})), chart.outcomes_of(one), chart.agreeing([one]), chart.cut([twice])],
            [(1, -1), (1, 0, -1), ((0, 1, 2), (3,), (4,)), ((1,), (0,), (-1,))])
        self.assertEqual(chart.truths(of_comparison(Comparison.read("a > b")) & of_comparison(Comparison.read("a = 2 b"))),
                         (False, True, False, False, False))
        self.raises(NoPair, {"pair": "2 a : b"}, chart.cut, [one, Pair.read("2 a : b")])
        abc = ["a", "b", "c"]
        self.assertEqual([len(charted(Book(abc), gaps_of(abc))), len(charted(Book(abc).above_nothing(), heaps_of(abc)))],
                         [25, 31])
        self.assertTrue(is_round(with_outcomes(two, [one, twice], (0, 1)), (0, 1, -1, 1)))
        self.assertEqual(charted(book=two, pairs=Sort([one, twice])), chart)

    def test_many_books(self):
        many = 0
        for book, pairs in cases(260, 71):
            chart = self.check(book, pairs)
            self.assertEqual(chart.lists, all_lists(book, pairs))
            many += len(chart) > 10
        self.assertGreater(many, 40)

    def test_no_pairs(self):
        for book, _ in cases(20, 72):
            chart = self.check(book, [])
            self.assertEqual((chart.lists, chart.tree, len(chart)), (((),), ("list", 0), 1))
            self.assertEqual((chart.cut([]), chart.agreeing([])), (((),), ((0,),)))
            self.assertEqual((chart.number_of([]), chart.number_of(()), chart.has([0])), (0, 0, False))
            self.assertEqual(charted(book, Sort([])), chart)

    def test_numbers_of_lists(self):
        for many, count in ((1, 1), (2, 3), (3, 13), (4, 75)):
            things = list("abcd"[:many])
            for book in (Book(things), Book(things).above_nothing()):
                self.assertEqual(len(self.check(book, order_of(things).pairs)), count)
        abc = ["a", "b", "c"]
        self.assertEqual(len(self.check(Book(abc), gaps_of(abc).pairs)), 25)
        self.assertEqual(len(self.check(Book(list("abcd")), cells_of("a b".split(), "c d".split()).pairs)), 17)
        self.assertEqual(len(self.check(Book(abc).above_nothing(), heaps_of(abc).pairs)), 31)
        split = [charted(Book.read("a b c | a " + kind + " b"), heaps_of(abc)) for kind in (">", "=")]
        self.assertEqual(2 * len(split[0]) + len(split[1]), 291)
        self.raises(TooMany, {"what": "lists", "most": 250}, charted, Book(abc), heaps_of(abc))
        two = Book(["a", "b"])
        for most, fractions in ((1, 1), (2, 3), (3, 7), (4, 11)):
            pairs = copies_of("a", "b", most)
            self.assertEqual(len(self.check(two.above_nothing(), pairs.pairs)), 2 * fractions + 1)
            self.assertEqual(len(self.check(two, pairs.pairs)), 4 * fractions + 1 if most > 1 else 3)

    def test_facts(self):
        for book, pairs in cases(120, 73, pairs=4):
            chart = charted(book, pairs)
            lists = set(chart.lists)
            plain = all(row.kind == "=" for row in book.rows)
            for one, other in itertools.product(chart.lists, repeat=2):
                both = tuple(mine or its for mine, its in zip(one, other))
                self.assertIn(both, lists)
                for at, pair in enumerate(pairs):
                    if (one[at], other[at]) == (1, -1):
                        self.assertTrue(any(told[at] == 0 and all(
                            told[place] == both[place] for place in range(len(pairs))
                            if place != at and one[place] * other[place] != -1) for told in lists))
            if plain:
                self.assertEqual({tuple(-outcome for outcome in told) for told in lists}, lists)
            for pair in pairs:
                had = chart.outcomes_of(pair)
                self.assertIs(is_open(book, pair), 1 in had and -1 in had)
                self.assertTrue(0 in had or not (1 in had and -1 in had))
                self.assertIs(is_held_alike(book, pair.balance), had == (0,))
            some = pairs[::2]
            self.assertEqual(chart.cut(some), charted(book, some).lists)
            for pair in pairs:
                row = pair.as_rows(1)
                if is_possible(book.with_rows(row)):
                    kept = tuple(told for told in chart.lists if told[pairs.index(pair)] == 1)
                    self.assertEqual(charted(book.with_rows(row), pairs).lists, kept)

    def test_alike_and_one(self):
        book = Book.read("a b c | a = b , c > a")
        pairs = [Pair.read(text) for text in ("a : b", "a : c", "b : c", "c : 0")]
        chart = self.check(book, pairs)
        self.assertEqual(chart.lists, ((0, -1, -1, 1), (0, -1, -1, 0), (0, -1, -1, -1)))
        self.assertTrue(are_one(book, pairs[1].balance, pairs[2].balance))
        rim = self.check(Book.read("a b | a >= b"), [PAIR])
        self.assertEqual((rim.lists, rim.outcomes_of(PAIR)), (((1,), (0,)), (1, 0)))
        held = self.check(Book.read("a b | a >= b , b >= a"), [PAIR])
        self.assertEqual((held.lists, held.outcomes_of(PAIR)), (((0,),), (0,)))

    def test_twenty_pairs(self):
        book = Book.read("a b | a > 50 b , b > 0")
        pairs = [Pair.read(f"a : {count} b") for count in range(2, 23)]
        self.assertEqual(self.check(book, pairs[:20]).lists, ((1,) * 20,))
        self.raises(TooMany, {"what": "pairs", "most": 20}, charted, book, pairs)
        self.raises(TooMany, {"what": "pairs", "most": 20}, charted, Book(["a", "b"]), pairs)
        self.raises(NoThing, {"name": "e"}, charted, book, [*pairs, Pair.read("e : f"), Pair.read("c : d")])
        self.raises(Impossible, {"paper": fit(IMPOSSIBLE)}, charted, IMPOSSIBLE, pairs)

    def test_two_hundred_and_fifty_lists(self):
        book = Book.read("a b c d u | u > 0 , a >= u")
        pairs = [Pair.read(text) for text in "a : u,b : u,b : 2 u,c : u,c : 2 u,d : u,d : 2 u".split(",")]
        self.assertEqual(len(charted(book, pairs)), 250)
        texts = ("a + 3 b + 2 u : 0,2 a : b,a + 2 u : 3 b,2 a : u,2 a + u : 3 b,3 b : u,a : 2 b,a + b + 2 u : 0,3 a : 2 u,"
                 "2 a + u : b,a + 2 b : 0,a + u : b")
        wide = [Pair.read(text) for text in texts.split(",")]
        self.raises(TooMany, {"what": "lists", "most": 250}, charted, Book.read("a b u | u > 0"), wide)
        self.assertLess(len(charted(Book.read("a b u | u > 0"), wide[1:])), 251)

    def test_times(self):
        start = time.perf_counter()
        things = list("abcdef")
        source = random.Random(74)
        charted(Book(list("abcd")), order_of(list("abcd")))
        for _ in range(6):
            book = random_book(source, things, 8, 9999)
            if is_possible(book):
                pairs = random_pairs(source, things, 5, 9999)
                charted(book, pairs)
        self.assertLess(time.perf_counter() - start, 20)

    def test_errors(self):
        self.refuses(BadBook, "book", lambda value: charted(value, None), [is_a(Book)])
        self.refuses(BadPair, "pairs", lambda value: charted(IMPOSSIBLE, value), [
            is_a(Sort), lambda value: isinstance(value, (list, tuple)) and all(type(one) is Pair for one in value)])
        self.raises(Twice, {"name": "a : b"}, charted, IMPOSSIBLE, [Pair.read("z : 0"), PAIR, Pair.read("a : b"), Pair.read("z : 0")])
        self.raises(NoThing, {"name": "c"}, charted, IMPOSSIBLE, [PAIR, Pair.read("a + c : z"), Pair.read("a0 : b")])
        self.raises(NoThing, {"name": "z"}, charted, IMPOSSIBLE, Sort.read("a : z , b : c"))
        self.raises(Impossible, {"paper": fit(IMPOSSIBLE)}, charted, IMPOSSIBLE, [])


class Methods(Case):
    def setUp(self):
        self.pairs = [Pair.read(text) for text in ("a : b", "a : c", "b : c", "2 a : b + c")]
        self.chart = charted(Book.read("a b c | a >= b"), self.pairs)

    def test_paper(self):
        parts = ([PAIR], [[1]], [SCALE], ["list", {"b": [0], "a": 1}])
        chart = Chart(*parts)
        self.assertEqual((chart.pairs, chart.lists, chart.scales), ((PAIR,), ((1,),), (SCALE,)))
        self.assertEqual(chart.tree, ("list", (("a", 1), ("b", (0,)))))
        self.assertEqual(Chart(tree=parts[3], scales=parts[2], lists=parts[1], pairs=parts[0]), chart)
        self.assertNotEqual(chart, Chart(*parts[:3], ("list", 0)))
        self.assertNotEqual(chart, Paper("chart", *parts))
        self.assertIsInstance(chart, Paper)
        self.assertNotIsInstance(chart, Denial)
        for value in ODD:
            Chart(value, value, value, value)

    def test_numbers(self):
        chart = self.chart
        for number, told in enumerate(chart.lists):
            self.assertEqual((chart.number_of(told), chart.number_of(list(told)), chart.has(told)), (number, number, True))
            self.assertEqual(chart.scale_at(number=number), chart.scales[number])
            self.assertEqual(chart.list_of(scale=chart.scales[number]), told)
            self.assertIsNone(chart.number_of(outcomes=told[1:]))
            self.assertIsNone(chart.number_of([*told, 0]))
            self.assertIsNone(chart.number_of(tuple(Ratio(outcome) for outcome in told)))
        for told in itertools.product((1, 0, -1), repeat=4):
            self.assertIs(chart.has(outcomes=told), told in chart.lists)
        for told in ((True, 1, 1, 1), [1, 1, 1, True], (False, 0, 0, 0), (1, 1, 1, None), "1111", (2, 1, 1, 1)):
            self.assertIsNone(chart.number_of(told))
            self.assertIs(chart.has(told), False)
        for value in ODD:
            self.assertIsNone(chart.number_of(value))
            self.assertIs(chart.has(value), False)
        self.assertEqual((len(CHART), CHART.has([1]), CHART.has([True]), CHART.has([[1]])), (1, True, False, False))

    def test_list_of(self):
        source = random.Random(75)
        for _ in range(50):
            worths = {thing: Ratio(source.randint(-3, 3), source.randint(1, 2)) for thing in "abcz"}
            scale = Scale(worths)
            self.assertEqual(self.chart.list_of(scale), tuple(scale.worth(pair.balance).sign for pair in self.pairs))
        self.refuses(BadScale, "scale", self.chart.list_of, [is_a(Scale)])
        self.raises(NoThing, {"name": "b"}, self.chart.list_of, Scale({"a": 1}))
        self.raises(NoThing, {"name": "c"}, self.chart.list_of, SCALE)

    def test_outcomes_of(self):
        for at, pair in enumerate(self.pairs):
            had = {told[at] for told in self.chart.lists}
            self.assertEqual(self.chart.outcomes_of(pair=pair), tuple(one for one in (1, 0, -1) if one in had))
        self.assertEqual(self.chart.outcomes_of(Pair.read("a : b")), (1, 0))
        self.refuses(BadPair, "pair", self.chart.outcomes_of, [is_a(Pair)])
        self.raises(NoPair, {"pair": "a : 2 b"}, self.chart.outcomes_of, Pair.read("a : 2 b"))

    def test_cut_and_agreeing(self):
        for many in range(5):
            for places in itertools.permutations(range(4), many):
                told = [self.pairs[place] for place in places]
                cuts = [tuple(outcomes[place] for place in places) for outcomes in self.chart.lists]
                self.assertEqual(self.chart.cut(told), tuple(sorted(set(cuts), reverse=True)))
                groups = [tuple(at for at, cut in enumerate(cuts) if cut == one) for one in dict.fromkeys(cuts)]
                self.assertEqual(self.chart.agreeing(pairs=Sort(told)), tuple(groups))
                self.assertEqual(self.chart.agreeing(tuple(told)), tuple(groups))
        self.assertEqual(self.chart.agreeing([]), (tuple(range(len(self.chart))),))
        self.assertEqual(self.chart.cut(pairs=[]), ((),))
        for method in (self.chart.cut, self.chart.agreeing):
            self.refuses(BadPair, "pairs", method, [
                is_a(Sort), lambda value: isinstance(value, (list, tuple)) and all(type(one) is Pair for one in value)])
            self.raises(Twice, {"name": "a : b"}, method, [Pair.read("x : y"), PAIR, PAIR])
            self.raises(NoPair, {"pair": "x : y"}, method, [PAIR, Pair.read("x : y"), Pair.read("a : x")])

    def test_truths(self):
        source = random.Random(76)
        for _ in range(60):
            saying = random_saying(source, self.pairs)
            truths = self.chart.truths(saying=saying)
            self.assertEqual(len(truths), len(self.chart))
            for number, truth in enumerate(truths):
                told = {str(pair): outcome for pair, outcome in zip(self.pairs, self.chart.lists[number])}
                self.assertIs(truth, saying.truth_by(told))
                self.assertIs(truth, saying.holds(self.chart.scales[number]))
        self.refuses(BadSaying, "saying", self.chart.truths, [is_a(Saying)])
        self.raises(NoPair, {"pair": "x : 0"}, self.chart.truths, Saying.read("( and [ a > b ] [ x > 0 ] [ a > 0 ] )"))
        self.refuses(BadNumber, "number", self.chart.scale_at, [
            lambda value: type(value) is int and 0 <= value < len(self.chart)])
        for chart in (self.chart, CHART):
            for number in (len(chart), -1, True, False):
                self.raises(BadNumber, {"part": "number"}, chart.scale_at, number)
            self.assertEqual(chart.scale_at(len(chart) - 1), chart.scales[-1])

    def test_nothing_passed_is_changed(self):
        pairs = list(self.pairs)
        outcomes = [1, 1, 1, 1]
        charted(BOOK.with_things("c"), pairs)
        self.chart.number_of(outcomes)
        self.chart.cut(pairs)
        self.assertEqual((pairs, outcomes), (self.pairs, [1, 1, 1, 1]))


if __name__ == "__main__":
    import unittest
    unittest.main()
