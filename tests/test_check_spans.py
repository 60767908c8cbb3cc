"""[15] and scaleborn/check_spans.py."""

import random

from scaleborn.balances import Balance
from scaleborn.books import Book
from scaleborn.check_spans import shows_span
from scaleborn.comparisons import Comparison
from scaleborn.ratios import Ratio
from scaleborn.scales import Scale
from scaleborn.spans import Span, span
from support import BOOK, ODD, SCALE, Case, bent_all_through, bent_papers, is_of
from test_charts import IMPOSSIBLE
from test_rounds import is_round
from test_spans import DOUBLE, is_way, some_ratios


def is_end(value):
    return value is None or type(value) in (int, Ratio)


def is_low(book, one, other, end, value):
    """Whether a value is what shows a low end, as the interface tells it."""
    if type(value) is not tuple or len(value) != 3 or not is_of(book, value[1]):
        return False
    weights, scale, way = value
    if way is not None and not is_way(book, way):
        return False
    if end is None:
        return weights is None and way is not None and way.worth(other) == 0 and way.worth(one).sign < 0
    gap = other * end - one
    at = scale if way is None else way
    if at.worth(other).sign < 1 or at.worth(one) != at.worth(other) * end:
        return False
    if gap.is_nothing:
        return weights is None and way is None
    rows = [*book.rows, Comparison(gap, ">" if way is None else ">=")]
    return type(weights) is tuple and is_round(Longer(rows), weights)


class Longer:
    """Rows, perhaps more than a book may have."""

    def __init__(self, rows):
        self.rows = rows


def is_span(book, one, other, value):
    """Whether a value is a right Span."""
    if type(value) is not Span or not is_end(value.lowest) or not is_end(value.highest):
        return False
    turned = None if value.highest is None else Ratio.of(value.highest) * -1
    return is_low(book, one, other, value.lowest, value.low) and is_low(book, -one, other, turned, value.high)


class CheckSpans(Case):
    def check(self, book, one, other, values):
        """All values are told as they are; how many are right."""
        right = 0
        for value in values:
            found = shows_span(book=book, one=one, other=other, value=value)
            self.assertIs(found, is_span(book, one, other, value))
            right += found
        return right

    def test_example(self):
        told = [None, Scale({"a": 2, "b": 1}), Scale({"a": 1, "b": 0})]
        self.assertEqual([shows_span(DOUBLE, Balance.of("a"), Balance.of("b"), Span(low, None, [[1, 0, 1], told[1], None], told))
                          for low in (2, 1)], [True, False])

    def bends(self, book, paper):
        """Spans that are nearly this one."""
        yield from bent_papers(paper, ODD[::2])
        worths = [Scale({thing: number for thing in book.things}) for number in (0, 1)]
        for at in (2, 3):
            weights, scale, way = paper.parts[at]
            for other in (*bent_all_through(paper.parts[at], (None, True, 0, 1, ())), (weights, scale, scale), (weights, way, way),
                          (weights, way, scale), (weights, scale * 2, way), (weights, scale, worths[0]), (weights, worths[1], way),
                          (weights, scale * -1, way), (None, scale, None), ([0] * (len(book) + 1), scale, way),
                          (weights and [weight * 5 for weight in weights], scale, way and way * Ratio(1, 3))):
                yield Span(*paper.parts[:at], other, *paper.parts[at + 1:])
        for at in (0, 1):
            for end in (0, 1, Ratio(1, 2), None, True, "1", paper.parts[at] and paper.parts[at] + 1, paper.parts[1 - at]):
                ends = [end if at == place else paper.parts[place] for place in (0, 1)]
                yield Span(*ends, *paper.parts[2:])
        yield Span(paper.highest, paper.lowest, paper.high, paper.low)
        yield Span(paper.lowest, paper.highest, paper.high, paper.low)

    def test_bent(self):
        right, counts = 0, {}
        for book, one, other in some_ratios(90, 411):
            paper = span(book, one, other)
            self.assertIs(shows_span(book, one, other, paper), True)
            right += self.check(book, one, other, self.bends(book, paper))
            self.check(book, -one, other, [paper])
            self.check(book, one, other * 2, [paper])
            self.check(book, one, one, [paper])
            self.check(book.with_rows(Comparison(one + other * 3, ">=")) if one != other * -3 else book, one, other, [paper])
            turned = Span(*[None if end is None else -end for end in (paper.highest, paper.lowest)], paper.high, paper.low)
            self.assertIs(shows_span(book, -one, other, turned), True)
            counts[(paper.lowest is None, paper.highest is None)] = True
        self.assertEqual(len(counts), 4)
        self.assertGreater(right, 200)

    def test_integers_for_ratios(self):
        near = span(DOUBLE, Balance.of("a"), Balance.of("b"))
        self.assertIs(shows_span(DOUBLE, Balance.of("a"), Balance.of("b"), Span(2, *near.parts[1:])), True)
        weights = [[Ratio(1), 0, 1], [1, False, 1], [True, 0, 1], [1, 0, 1, 0], [1, 0], [2, 0, 2], [-1, 0, -1], "101"]
        for some in weights:
            low = (some, *near.low[1:])
            self.assertIs(shows_span(DOUBLE, Balance.of("a"), Balance.of("b"), Span(2, None, low, near.high)), some == [2, 0, 2])

    def test_kinds_of_the_further_row(self):
        # In the book a >= 2 b the end is reached, in a > 2 b it is not: the weights are equal, the rows are not.
        open_book = Book.read("a b | a > 2 b , b > 0")
        one, other = Balance.of("a"), Balance.of("b")
        none = (None, Scale({"a": 3, "b": 1}), Scale({"a": 1, "b": 0}))
        way = Scale({"a": 2, "b": 1})
        for book, low, right in (
                (DOUBLE, ([1, 0, 1], way, None), True), (DOUBLE, ([1, 0, 1], none[1], None), False),
                (DOUBLE, ([1, 0, 1], none[1], way), False), (open_book, ([1, 0, 1], none[1], way), True),
                (open_book, ([1, 0, 1], none[1], None), False), (open_book, ([1, 0, 1], way, None), False),
                (open_book, ([1, 0, 1], none[1], Scale({"a": 3, "b": 1})), False), (open_book, (None, none[1], way), False),
                (open_book, ([1, 0, 1], none[1], Scale({"a": 0, "b": 0})), False)):
            self.assertIs(shows_span(book, one, other, Span(2, None, low, none)), right)

    def test_ways(self):
        # A way has just the book's things, 0 or more for each row > and >=, and 0 for each row =.
        book, one, other = Book.read("a b c d | a = b , c > 0 , d >= 0"), Balance.of("a"), Balance.of("c")
        scale, high = Scale({"a": 1, "b": 1, "c": 1, "d": 0}), Scale({"a": 1, "b": 1, "c": 0, "d": 0})
        for worths, right in (("a -1 b -1 c 0 d 0", True), ("a -1 b -2 c 0 d 0", False), ("a -1 b 0 c 0 d 0", False),
                              ("a -1 b -1 c 0 d 5", True), ("a -1 b -1 c 0 d -1", False), ("a -1 b -1 c 0", False),
                              ("a -1 b -1 c 0 d 0 e 0", False), ("a -1 b -1 c 1 d 0", False), ("a 0 b 0 c 0 d 0", False),
                              ("a 1 b 1 c 0 d 0", False)):
            value = Span(None, None, (None, scale, Scale.read(worths)), (None, scale, high))
            self.assertIs(shows_span(book, one, other, value), right, worths)

    def test_what_is_not_above_nothing(self):
        free = Book(["a", "b"])
        one, other = Balance.of("a"), Balance.of("b")
        low, high = [(None, SCALE, Scale({"a": number, "b": 0})) for number in (-1, 1)]
        self.assertIs(shows_span(free, one, other, Span(None, None, low, high)), True)
        self.assertIs(shows_span(free, one, other, Span(None, None, high, low)), False)
        # One by itself is 1 where it is above 0, and no ratio elsewhere.
        for number, right in ((2, True), (0, False), (-2, False)):
            triple = (None, Scale({"a": number, "b": 0}), None)
            self.assertIs(shows_span(free, one, one, Span(1, 1, triple, triple)), right)
        above = Scale({"a": 2, "b": 0})
        for triple, right in (((None, SCALE, None), True), ((None, SCALE, above), False), (([1, 0], SCALE, None), False)):
            self.assertIs(shows_span(BOOK.above_nothing(), one, one, Span(1, 1, *[(*triple[:1], Scale({"a": 2, "b": 1}), triple[2])] * 2)), right)
        nothing = (None, SCALE, None)
        self.assertIs(shows_span(BOOK, Balance({}), Balance({}), Span(1, 1, nothing, nothing)), False)

    def test_impossible_books(self):
        one, triple = Balance.of("a"), (None, SCALE, None)
        self.assertIs(shows_span(IMPOSSIBLE, one, one, Span(1, 1, triple, triple)), False)
        self.assertIs(shows_span(Book(["a", "b"]), one, one, Span(1, 1, triple, triple)), True)
        self.assertIs(shows_span(IMPOSSIBLE, one, one, Span(None, None, (None, SCALE, SCALE), (None, SCALE, SCALE))), False)

    def test_odd_values(self):
        for value in ODD:
            self.assertIs(shows_span(DOUBLE, Balance.of("a"), Balance.of("b"), value), False)
            self.assertIs(shows_span(DOUBLE, Balance.of("a"), Balance.of("b"), Span(value, value, value, value)), False)
            for at in range(3):
                triple = [None, Scale({"a": 2, "b": 1}), Scale({"a": 1, "b": 0})]
                triple[at] = value
                self.check(DOUBLE, Balance.of("a"), Balance.of("b"), [Span(None, None, triple, triple)])

    def test_wide_books(self):
        source = random.Random(412)
        rows = [Comparison.read("a > b")] * 15 + [Comparison.read("b > 0")]
        book = Book(["a", "b"], rows)
        paper = span(book, Balance.of("a"), Balance.of("b"))
        self.assertIs(shows_span(book, Balance.of("a"), Balance.of("b"), paper), True)
        self.assertEqual(len(paper.low[0]), 17)
        moved = list(paper.low[0])
        source.shuffle(moved)
        self.check(book, Balance.of("a"), Balance.of("b"), [Span(*paper.parts[:2], (moved, *paper.low[1:]), paper.high)])


if __name__ == "__main__":
    import unittest
    unittest.main()
