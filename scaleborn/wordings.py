"""Wordings: what the full lists of a sort tell of a saying."""

from scaleborn.books import Book
from scaleborn.charts import Chart, charted
from scaleborn.checks import need_things
from scaleborn.errors import BadBook, BadPaper, BadSaying, BadSort
from scaleborn.papers import Paper
from scaleborn.sayings import Saying
from scaleborn.sorts import Sort


class Wordings(Paper):
    """The outer and the inner wording of a saying by a sort, and a chart."""

    def __init__(self, outer, inner, chart):
        super().__init__("wordings", outer, inner, chart)
        self.outer, self.inner, self.chart = self.parts


def wordings(book, saying, by):
    """Both wordings of a saying by a sort in the book."""
    chart = chart_by(book, saying, by)
    outer, inner = wordings_in(chart, saying, by)
    return Wordings(outer, inner, chart)


def wordings_in(chart, saying, by):
    """The outer and the inner wording, as a chart tells them that has all pairs of sort and saying."""
    if type(chart) is not Chart:
        raise BadPaper("chart")
    if not isinstance(saying, Saying):
        raise BadSaying("saying")
    if not isinstance(by, Sort):
        raise BadSort("by")
    fulls = chart.cuts_by(chart.places_of(by.pairs))
    truths = chart.truths(saying)
    kept = {full: True for full, truth in zip(fulls, truths) if truth}
    broken = {full: True for full, truth in zip(fulls, truths) if not truth}
    outer = [full for full in chart.cut(by) if full in kept]
    return tuple(outer), tuple([full for full in outer if full not in broken])


def need_by(book, saying, by):
    """Raise what stands against asking the book for a saying by a sort."""
    if not isinstance(book, Book):
        raise BadBook("book")
    if not isinstance(saying, Saying):
        raise BadSaying("saying")
    if not isinstance(by, Sort):
        raise BadSort("by")
    need_things(book.things, saying.things)
    need_things(book.things, by.things)


def chart_by(book, saying, by):
    """The chart for the pairs of a sort and, behind them, those of a saying that it lacks."""
    need_by(book, saying, by)
    return charted(book, [*by.pairs, *[pair for pair in saying.pairs if pair not in by]])


def divided_in(fulls, truths):
    """The numbers of two equal full lists where the truth is True, and False; None if there are no such two."""
    kept = {}
    for number, truth in enumerate(truths):
        if truth:
            kept.setdefault(fulls[number], number)
    for number, truth in enumerate(truths):
        if not truth and fulls[number] in kept:
            return kept[fulls[number]], number
    return None


def carries(chart, pairs, truths):
    """Whether no two lists of a chart agree on these pairs of it and have unlike truths."""
    return divided_in(chart.cuts_by(chart.places_of(pairs)), truths) is None
