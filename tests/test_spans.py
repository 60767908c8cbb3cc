"""[15] and scaleborn/spans.py."""

import itertools
import random
import time
from math import gcd

from scaleborn.balances import Balance
from scaleborn.books import Book
from scaleborn.check_spans import shows_span
from scaleborn.comparisons import Comparison, compared
from scaleborn.errors import BadBalance, BadBook, BadScale, Impossible, NotAbove, NoThing
from scaleborn.hulls import is_held_alike
from scaleborn.papers import Denial
from scaleborn.ratios import Ratio
from scaleborn.rounds import fit, is_possible
from scaleborn.scales import Scale
from scaleborn.sayings import of_comparison
from scaleborn.spans import Span, ratio_at, span
from scaleborn.verdicts import truth_in
from support import BALANCE, BOOK, SCALE, Case, is_a
from test_charts import IMPOSSIBLE
from test_rounds import KINDS, is_round, random_book

GROWN = Book.read("a b c | a > 3 b , 2 b > c , c > 0")
DOUBLE = Book.read("a b | a >= 2 b , b > 0")


def is_way(book, value):
    """Whether a value is a way of the book."""
    if not isinstance(value, Scale) or value.things != book.things:
        return False
    signs = [(row.kind, value.worth(row.balance).sign) for row in book.rows]
    return all(sign == 0 if kind == "=" else sign >= 0 for kind, sign in signs)


def is_above(book, balance):
    """Whether a balance is above 0 at all scales of a possible book."""
    return not balance.is_nothing and not is_possible(book.with_rows(Comparison(-balance, ">=")))


def random_balance(source, things, most=2):
    return Balance({thing: Ratio(source.randint(-most, most), source.randint(1, 2)) for thing in things})


def some_ratios(many, seed, rows=5, things="abcd", kinds=KINDS):
    """Possible books, and two balances, the second above 0 at all scales."""
    source = random.Random(seed)
    while many > 0:
        names = list(things[:source.randint(1, len(things))])
        book = random_book(source, names, source.randint(1, rows), 3)
        book = Book(names, [Comparison(row.balance, source.choice(kinds)) for row in book.rows])
        more = [row.balance for row in book.rows if row.kind == ">"]
        if not is_possible(book) or not more:
            continue
        other = source.choice(more) * source.choice([1, 2, Ratio(1, 2)])
        others = [row.balance for row in book.rows if row.kind == ">="]
        if others and source.random() < 0.5:
            other = other + source.choice(others)
        if other.is_nothing or not is_above(book, other):
            continue
        one = random_balance(source, names)
        if source.random() < 0.3:
            one = source.choice([balance for balance in more + others + [other]]) * source.choice([1, -1, 2])
        yield book, one, other
        many -= 1


class Spans(Case):
    def check_low(self, book, one, other, end, triple):
        """A low end with what shows it."""
        weights, scale, way = triple
        self.assertEqual(scale.things, book.things)
        self.assertTrue(book.keeps(scale))
        if end is None:
            self.assertIsNone(weights)
            self.assertTrue(is_way(book, way))
            self.assertEqual((way.worth(other).sign, way.worth(one).sign), (0, -1))
            return
        self.assertIs(type(end), Ratio)
        gap = other * end - one
        at = scale if way is None else way
        self.assertGreater(at.worth(other).sign, 0)
        self.assertEqual(at.worth(one), at.worth(other) * end)
        self.assertTrue(way is None or is_way(book, way))
        # It is reached just if the book has such a scale.
        reached = gap.is_nothing or is_possible(book.with_rows(Comparison(gap, "=")))
        self.assertIs(way is None, reached)
        if gap.is_nothing:
            self.assertIsNone(weights)
            return
        further = book.with_rows(Comparison(gap, ">" if reached else ">="))
        self.assertTrue(is_round(further, weights))
        self.assertEqual(gcd(*weights), 1)

    def check(self, book, one, other):
        paper = span(book=book, one=one, other=other)
        self.assertIs(type(paper), Span)
        self.assertIs(shows_span(book, one, other, paper), True)
        self.assertEqual(span(Book(book.things[::-1], list(book.rows)), one * 1, other * 1), paper)
        self.check_low(book, one, other, paper.lowest, paper.low)
        self.check_low(book, -one, other, None if paper.highest is None else -paper.highest, paper.high)
        return paper

    def test_example(self):
        far = span(GROWN, Balance.of("a"), Balance.of("c"))
        self.assertEqual([far.lowest, far.highest, far.low[0], far.low[2].worth(Balance({"a": 2, "c": -3})), far.high[0],
                          far.high[2].worth(Balance.of("c"))], [Ratio(3, 2), None, (2, 3, 0, 1), 0, None, 0])
        near = span(DOUBLE, Balance.of("a", "b"), Balance.of("b"))
        self.assertEqual(
            [near.lowest, near.low[0], near.low[2], ratio_at(near.low[1], Balance.of("a"), Balance.of("b")),
             span(DOUBLE, Balance.of("b"), Balance.of("a")).lowest], [3, (1, 0, 1), None, 2, 0])
        with self.assertRaises(NotAbove):
            span(DOUBLE, Balance.of("a"), Balance({"a": 1, "b": -2}))

    def test_papers(self):
        paper = Span(high=[None, SCALE, None], low=2, highest=[1], lowest=3)
        self.assertEqual((paper.word, bool(paper), paper.parts), ("span", True, (3, (1,), 2, (None, SCALE, None))))
        self.assertEqual((paper.lowest, paper.highest, paper.low, paper.high), paper.parts)
        self.assertNotIsInstance(paper, Denial)

    def test_many(self):
        counts = {}
        for book, one, other in some_ratios(400, 381):
            paper = self.check(book, one, other)
            for end, triple in ((paper.lowest, paper.low), (paper.highest, paper.high)):
                key = "none" if end is None else ("reached" if triple[2] is None else "not")
                counts[key] = counts.get(key, 0) + 1
            same = paper.lowest is not None and paper.highest is not None and paper.lowest == paper.highest
            counts["same"] = counts.get("same", 0) + same
            if book.is_strict:
                for triple, end in ((paper.low, paper.lowest), (paper.high, paper.highest)):
                    self.assertTrue(end is None or triple[2] is not None or same)
        self.assertGreater(min(counts[key] for key in ("none", "reached", "not", "same")), 30, counts)

    def test_rows_of_each_kind(self):
        for at, kinds in enumerate(((">",), (">", ">="), (">", "="))):
            for book, one, other in some_ratios(60, 382 + at, kinds=kinds):
                self.check(book, one, other)

    def test_facts(self):
        source = random.Random(386)
        for book, one, other in some_ratios(90, 387, rows=4):
            paper = span(book, one, other)
            turned = span(book, one * -2, other)
            self.assertEqual([turned.lowest, turned.highest],
                             [None if end is None else end * -2 for end in (paper.highest, paper.lowest)])
            # One more than r times other is always so just if r is below the low end, or it is not reached.
            low, high = paper.lowest, paper.highest
            ends = [end for end in (low, high) if end is not None]
            tried = [*ends, *[end + step for end in ends for step in (1, -1, Ratio(1, 100))], Ratio(source.randint(-3, 3))]
            for ratio in tried:
                gap = one - other * ratio
                if gap.is_nothing:
                    continue
                always = low is not None and (ratio.is_below(low) or ratio == low and paper.low[2] is not None)
                never = high is not None and not ratio.is_below(high)
                self.assertIs(truth_in(book, of_comparison(Comparison(gap, ">"))), True if always else (False if never else None))
                between = (low is None or low.is_below(ratio)) and (high is None or ratio.is_below(high))
                if between:
                    self.assertTrue(is_possible(book.with_rows(Comparison(gap, "="))))
            row = Comparison(random_balance(source, book.things) + Balance.of(book.things[0]) * 5, source.choice(KINDS))
            if is_possible(book.with_rows(row)):
                nearer = span(book.with_rows(row), one, other)
                self.assertTrue(low is None or not nearer.lowest.is_below(low))
                self.assertTrue(high is None or not high.is_below(nearer.highest))
            if is_above(book, one):
                over = span(book, other, one)
                self.assertEqual(over.lowest, 0 if high is None else Ratio(1).over(high))
                self.assertEqual(over.highest, None if low == 0 else Ratio(1).over(low))

    def test_edges(self):
        one, none = Balance.of("a"), Balance({})
        paper = self.check(Book.read("a b | b > 0"), none, Balance.of("b"))
        self.assertEqual((paper.lowest, paper.highest, paper.low[0], paper.low[2]), (0, 0, None, None))
        paper = self.check(Book.read("a b | b > 0"), Balance({"b": Ratio(-7, 3)}), Balance.of("b"))
        self.assertEqual((paper.lowest, paper.highest), (Ratio(-7, 3), Ratio(-7, 3)))
        tied = self.check(Book.read("a b | b > 0 , 2 a = 3 b"), one, Balance.of("b"))
        self.assertEqual((tied.lowest, tied.highest), (Ratio(3, 2), Ratio(3, 2)))
        self.assertIsNotNone(tied.low[0])
        self.assertTrue(is_held_alike(Book.read("a b | b > 0 , 2 a = 3 b"), Balance({"a": 2, "b": -3})))
        wide = self.check(Book.read("a b | b > 0"), one, Balance.of("b"))
        self.assertEqual((wide.lowest, wide.highest), (None, None))
        half = self.check(Book.read("a b | b > 0 , a >= 0"), one, Balance.of("b"))
        self.assertEqual((half.lowest, half.low[2], half.highest), (0, None, None))
        lone = self.check(Book.read("a | a > 0"), one * 3, one * 2)
        self.assertEqual((lone.lowest, lone.highest), (Ratio(3, 2), Ratio(3, 2)))
        down = self.check(Book.read("a b | 0 > b , b >= a"), one, -Balance.of("b"))
        self.assertEqual((down.lowest, down.highest), (None, -1))

    def test_copies(self):
        # Rows of i times the one against j times the other give ends that are fractions, 0 or none.
        source = random.Random(388)
        for _ in range(60):
            book = Book(["a", "b"]).above_nothing()
            for _ in range(source.randint(0, 3)):
                one, other = Balance({"a": source.randint(1, 4)}), Balance({"b": source.randint(1, 4)})
                row = compared(one, source.choice(KINDS), other)
                row = source.choice([row, Comparison(-row.balance, row.kind)])
                if is_possible(book.with_rows(row)):
                    book = book.with_rows(row)
            paper = self.check(book, Balance.of("a"), Balance.of("b"))
            for end in (paper.lowest, paper.highest):
                self.assertTrue(end is None or end == 0 or max(end.top, end.bottom) <= 4)
            self.assertIsNotNone(paper.lowest)

    def test_not_above(self):
        source, some = random.Random(389), 0
        for _ in range(150):
            book = random_book(source, list("abc"), 2, 2)
            other = random_balance(source, "abc", 1)
            if is_possible(book) and not is_above(book, other):
                with self.assertRaises(NotAbove) as caught:
                    span(book, Balance.of("a"), other)
                scale = caught.exception.scale
                self.assertTrue(scale.things == book.things and book.keeps(scale))
                self.assertLess(scale.worth(other).sign, 1)
                some += 1
        self.assertGreater(some, 50)
        with self.assertRaises(NotAbove) as caught:
            span(BOOK, BALANCE, Balance({}))
        self.assertTrue(BOOK.keeps(caught.exception.scale))

    def test_great_books(self):
        source = random.Random(390)
        seen = 0
        while seen < 25:
            things, rows = source.choice([("abcd", 6), ("abcdef", 8), ("abcdef", 16)])
            book = random_book(source, list(things), rows, source.choice([2, 9999]))
            more = [row.balance for row in book.rows if row.kind == ">"]
            if not is_possible(book) or not more:
                continue
            start = time.perf_counter()
            self.check(book, random_balance(source, things, 9999), more[0]) if is_above(book, more[0]) else None
            self.assertLess(time.perf_counter() - start, 5)
            seen += 1

    def test_ratio_at(self):
        source = random.Random(391)
        for worths in itertools.product((-2, 0, Ratio(1, 2), 3), repeat=2):
            scale = Scale({"a": worths[0], "b": worths[1], "c": 5})
            one, other = random_balance(source, "abc"), random_balance(source, "ab")
            if scale.worth(other).sign > 0:
                found = ratio_at(scale=scale, one=one, other=other)
                self.assertIs(type(found), Ratio)
                self.assertEqual(found * scale.worth(other), scale.worth(one))
            else:
                self.raises(NotAbove, {"scale": scale}, ratio_at, scale, one, other)
        self.refuses(BadScale, "scale", lambda value: ratio_at(value, None, None), [is_a(Scale)])
        self.refuses(BadBalance, "one", lambda value: ratio_at(SCALE, value, None), [is_a(Balance)])
        self.refuses(BadBalance, "other", lambda value: ratio_at(SCALE, Balance.of("z"), value), [is_a(Balance)])
        self.raises(NoThing, {"name": "x"}, ratio_at, SCALE, Balance.of("z", "x", "a"), Balance.of("c"))
        self.raises(NoThing, {"name": "c"}, ratio_at, SCALE, BALANCE, Balance.of("d", "c"))
        self.raises(NotAbove, {"scale": SCALE}, ratio_at, SCALE, BALANCE, Balance({}))

    def test_errors(self):
        for function in (span, lambda *told: shows_span(*told, None)):
            self.refuses(BadBook, "book", lambda value: function(value, None, None), [is_a(Book)])
            self.refuses(BadBalance, "one", lambda value: function(IMPOSSIBLE, value, None), [is_a(Balance)])
            self.refuses(BadBalance, "other", lambda value: function(IMPOSSIBLE, Balance.of("z"), value), [is_a(Balance)])
            self.raises(NoThing, {"name": "x"}, function, IMPOSSIBLE, Balance.of("z", "x", "a"), Balance.of("c"))
            self.raises(NoThing, {"name": "c"}, function, IMPOSSIBLE, BALANCE, Balance.of("d", "c"))
        self.raises(Impossible, {"paper": fit(IMPOSSIBLE)}, span, IMPOSSIBLE, BALANCE, Balance({}))


if __name__ == "__main__":
    import unittest
    unittest.main()
