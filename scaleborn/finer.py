"""Finer sorts: what agrees on the one agrees on the other."""

from scaleborn.books import Book
from scaleborn.charts import charted
from scaleborn.checks import need_things
from scaleborn.errors import BadBook, BadSort
from scaleborn.papers import Denial, Paper
from scaleborn.sorts import Sort, each_once


class Finer(Paper):
    """A chart that shows that one sort is finer than another one."""

    def __init__(self, chart):
        super().__init__("finer", chart)
        self.chart = self.parts[0]


class Coarser(Denial):
    """A pair that a sort does not decide, and two scales that agree on the sort."""

    def __init__(self, pair, one, other):
        super().__init__("coarser", pair, one, other)
        self.pair, self.one, self.other = self.parts


def finer_than(book, one, other):
    """Whether one sort is finer in the book than another one, and what shows it."""
    chart = _chart_of(book, one, other)
    for pair in other:
        numbers = undecided_in(chart, one, pair)
        if numbers is not None:
            return Coarser(pair, chart.scales[numbers[0]], chart.scales[numbers[1]])
    return Finer(chart)


def sorts_word(book, one, other):
    """Whether two sorts are the same in the book, one of them is finer, or none is."""
    chart = _chart_of(book, one, other)
    if decides_all(chart, one, other):
        return "same" if decides_all(chart, other, one) else "finer"
    return "coarser" if decides_all(chart, other, one) else "apart"


def need_sorts(book, one, other):
    """Raise what stands against asking the book for two sorts."""
    if not isinstance(book, Book):
        raise BadBook("book")
    if not isinstance(one, Sort):
        raise BadSort("one")
    if not isinstance(other, Sort):
        raise BadSort("other")
    need_things(book.things, one.things)
    need_things(book.things, other.things)


def decides_all(chart, one, other):
    """Whether no two lists of a chart agree on one sort and not on the other one."""
    return all([undecided_in(chart, one, pair) is None for pair in other])


def undecided_in(chart, sort, pair):
    """The numbers of two lists that agree on a sort, the first with a greater outcome of the pair; None without any."""
    cuts = chart.cuts_by(chart.places_of(sort.pairs))
    outcomes = [cut[0] for cut in chart.cuts_by(chart.places_of([pair]))]
    first = {}
    for number, cut in enumerate(cuts):
        ahead = first.setdefault(cut, number)
        if outcomes[ahead] != outcomes[number]:
            return (ahead, number) if outcomes[ahead] > outcomes[number] else (number, ahead)
    return None


def _chart_of(book, one, other):
    """The chart for the pairs of one sort, then those of the other one that it lacks."""
    need_sorts(book, one, other)
    return charted(book, each_once([*one.pairs, *other.pairs]))
