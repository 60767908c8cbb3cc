"""What stands between two hands: a saying of common things that the one makes sure of."""

from scaleborn.books import Book
from scaleborn.charts import charted
from scaleborn.checks import need_things
from scaleborn.errors import BadBook, BadSaying, TooMany
from scaleborn.hands import clash_of, need_fitting
from scaleborn.papers import Paper
from scaleborn.sayings import Saying, both_of, either_of, no, of_comparison, yes

_MOST_LISTS = 8


class Between(Paper):
    """What stands between two hands, a chart of each, and the clashes that show it."""

    def __init__(self, saying, mine, its, clashes):
        super().__init__("between", saying, mine, its, clashes)
        self.saying, self.mine, self.its, self.clashes = self.parts


def between(one, saying, other, wanted):
    """What stands between sayings of two hands, or a scale at which the one holds and the wanted one fails."""
    need_between(one, saying, other, wanted)
    things = need_fitting(one, other)
    mine, its = charted(one, saying.pairs), charted(other, wanted.pairs)
    kept, broken = lists_of(mine, saying, True), lists_of(its, wanted, False)
    if len(kept) > _MOST_LISTS or len(broken) > _MOST_LISTS:
        raise TooMany("lists", _MOST_LISTS)
    clashes = []
    for told in kept:
        some = [clash_of(things, rows_with(one, mine, told), rows_with(other, its, wrong)) for wrong in broken]
        apart = [paper for paper in some if not paper]
        if len(apart) > 0:
            return apart[0]
        clashes.append(some)
    if len(broken) == 0:
        clashes = []
    return Between(saying_between(kept, broken, clashes), mine, its, clashes)


def saying_between(kept, broken, clashes):
    """The saying that the clashes make, for the lists at which one saying holds and another one fails."""
    if len(kept) == 0:
        return no()
    if len(broken) == 0:
        return yes()
    return either_of([both_of([of_comparison(paper.comparison) for paper in some]) for some in clashes])


def lists_of(chart, saying, truth):
    """The outcome lists at which a saying has this truth."""
    return [told for told, held in zip(chart.lists, chart.truths(saying)) if held == truth]


def rows_with(book, chart, outcomes):
    """The rows of a book and, behind them, those that just the scales with these outcomes keep."""
    return [*book.rows, *[pair.as_rows(outcome) for pair, outcome in zip(chart.pairs, outcomes)]]


def need_between(one, saying, other, wanted):
    """Raise what stands against asking what stands between sayings of two hands."""
    if not isinstance(one, Book):
        raise BadBook("one")
    if not isinstance(saying, Saying):
        raise BadSaying("saying")
    if not isinstance(other, Book):
        raise BadBook("other")
    if not isinstance(wanted, Saying):
        raise BadSaying("wanted")
    need_things(one.things, saying.things)
    need_things(other.things, wanted.things)
