"""What several tests share."""

import unittest

from scaleborn.balances import Balance
from scaleborn.books import Book
from scaleborn.charts import Chart, charted
from scaleborn.check_charts import shows_chart
from scaleborn.comparisons import Comparison, Pair
from scaleborn.errors import BadText, ScaleError
from scaleborn.papers import Denial, Paper
from scaleborn.ratios import Ratio
from scaleborn.sayings import Saying
from scaleborn.scales import Scale
from scaleborn.sorts import Sort


class Stubborn:
    """An object that lets nobody compare it, hash it, ask for its truth or write it."""

    def __eq__(self, other):
        raise AssertionError("was compared")

    __hash__ = None

    def __bool__(self):
        raise AssertionError("was asked for its truth")

    def __len__(self):
        raise AssertionError("was measured")

    def __str__(self):
        raise AssertionError("was written")

    def __repr__(self):
        return "Stubborn()"


# One value of each kind: tests leave out those that are right where they stand.
BALANCE = Balance({"a": 1, "b": -1})
COMPARISON = Comparison(BALANCE, ">")
PAIR = Pair(BALANCE)
SORT = Sort([PAIR])
SCALE = Scale({"a": 1, "b": 0})
BOOK = Book(["a", "b"], [COMPARISON])
SAYING = Saying([("holds", COMPARISON)])
CHART = Chart([PAIR], [(1,)], [SCALE], ("branch", ("list", 0), ("barred", (1, -1)), ("barred", (1, 1))))
ODD = (
    None, True, False, 0, 1, -1, 2, 10 ** 70, 1.0, "", "a", "A", "1", "a b", b"a", [], (), {}, {"a"}, ["a"], ("a", "b"),
    [1], {"a": 1}, {"a": "b"}, {1: "a"}, {"A": 1}, {"a": None}, object(), Stubborn(), Ratio, Ratio(1, 2), Ratio(1),
    Paper("note"), BALANCE, COMPARISON, PAIR, SORT, SCALE, BOOK, SAYING, CHART, [BALANCE], [COMPARISON], [PAIR], [SAYING],
    ["A"], ["a", 1], [None], [Stubborn()], {"a": Stubborn()})


class Case(unittest.TestCase):
    """A test case that knows how errors are told."""

    def raises(self, error, fields, function, *told, **named):
        """The call raises just this error with just these fields."""
        with self.assertRaises(ScaleError) as caught:
            function(*told, **named)
        self.assertIs(type(caught.exception), error)
        self.assertEqual(vars(caught.exception), fields)

    def bad_text(self, read, text, word):
        """The text is refused at this word."""
        with self.assertRaises(BadText, msg=repr(text)) as caught:
            read(text)
        self.assertEqual((caught.exception.line, caught.exception.word), (0, word), text)

    def refuses(self, error, part, call, right=()):
        """The call raises this error for each odd value but those of the right kinds."""
        for value in ODD:
            if not any(is_right(value) for is_right in right):
                with self.subTest(value=repr(value)[:80]):
                    self.raises(error, {"part": part}, call, value)


def is_a(*kinds):
    """Whether a value is of these classes, truths being no integers."""
    return lambda value: isinstance(value, kinds) and not (isinstance(value, bool) and bool not in kinds)


def is_written(*texts):
    """Whether a value is written in one of these ways; unlike `==` this asks no value for anything."""
    return lambda value: repr(value) in texts


def is_just(value, other):
    """Whether two nested tuples are equal, and of equal classes all the way in."""
    if type(value) is not type(other):
        return False
    if isinstance(value, tuple):
        return len(value) == len(other) and all(is_just(one, its) for one, its in zip(value, other))
    return value == other


def bent_all_through(value, others=(None, True, 0, 1, -1, 2, "list", (), (0,))):
    """The nested tuple with one item, at any depth, left out, doubled, exchanged with the next one or replaced."""
    for other in others:
        yield other
    if isinstance(value, tuple):
        for at, item in enumerate(value):
            yield (*value[:at], *value[at + 1:])
            yield (*value[:at], item, *value[at:])
            if at + 1 < len(value):
                yield (*value[:at], value[at + 1], item, *value[at + 2:])
            for bend in bent_all_through(item, others):
                yield (*value[:at], bend, *value[at + 1:])
        yield (*value, 0)


def bent_papers(paper, others=ODD):
    """The paper with one part replaced, bent all through or exchanged with another one; papers of other classes."""
    parts, made = paper.parts, type(paper)
    for at, part in enumerate(parts):
        for other in others:
            yield made(*parts[:at], other, *parts[at + 1:])
        if isinstance(part, tuple):
            for bend in bent_all_through(part):
                yield made(*parts[:at], bend, *parts[at + 1:])
        for to in range(at):
            swapped = list(parts)
            swapped[at], swapped[to] = swapped[to], swapped[at]
            yield made(*swapped)
    yield Paper(paper.word, *parts)
    yield Denial(paper.word, *parts)
    yield parts


def is_chart(book, value):
    """Whether a value is a right chart of the book for its own pairs."""
    if type(value) is not Chart or not isinstance(value.pairs, tuple):
        return False
    if not all(isinstance(pair, Pair) and set(pair.things) <= set(book.things) for pair in value.pairs):
        return False
    return len({str(pair) for pair in value.pairs}) == len(value.pairs) and shows_chart(book, value.pairs, value)


def is_at(value, chart):
    """Whether a value is the number of an outcome list of a chart."""
    return type(value) is int and 0 <= value < len(chart.lists)


def is_of(book, value):
    """Whether a value is a scale of the book."""
    return isinstance(value, Scale) and value.things == book.things and book.keeps(value)


def bent_charts(book, chart):
    """Charts that are nearly this one: most of them are wrong."""
    yield Chart(chart.pairs[::-1], chart.lists, chart.scales, chart.tree)
    yield Chart(chart.pairs, chart.lists[::-1], chart.scales[::-1], chart.tree)
    yield Chart(chart.pairs, chart.lists[:-1], chart.scales[:-1], chart.tree)
    yield Chart(chart.pairs, chart.lists, chart.scales[1:] + chart.scales[:1], chart.tree)
    yield Chart(chart.pairs, chart.lists, chart.scales, ("list", 0))
    yield Chart(chart.pairs[:-1], [told[:-1] for told in chart.lists], chart.scales, chart.tree)
    yield Chart(chart.pairs, [[told == 1 or told for told in row] for row in chart.lists], chart.scales, chart.tree)
    yield charted(book, chart.pairs[:-1])
    yield charted(book, chart.pairs[::-1])
    yield charted(book, [*chart.pairs, *[pair for pair in extra_pairs(book) if pair not in chart.pairs]])


def extra_pairs(book):
    """Two pairs of a book's things that other papers seldom have."""
    return [Pair(Balance.of(book.things[0]) * 7), Pair(Balance({book.things[0]: 5, book.things[-1]: 3}))]


def bent(text, more=()):
    """The text with each word left out, doubled, exchanged, with words put in, and cut off."""
    words = text.split(" ")
    others = list(dict.fromkeys([*words, "", "?", "A", "7up", "01", "1", "0", "-1", *more]))
    for at in range(len(words) + 1):
        yield " ".join(words[:at])
        for word in others:
            yield " ".join([*words[:at], word, *words[at:]])
            if at < len(words):
                yield " ".join([*words[:at], word, *words[at + 1:]])
        if at < len(words):
            yield " ".join(words[:at] + words[at + 1:])
            for to in range(at):
                swapped = list(words)
                swapped[at], swapped[to] = swapped[to], swapped[at]
                yield " ".join(swapped)
