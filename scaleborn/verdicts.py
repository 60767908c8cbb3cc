"""Verdicts: what always holds in a book, what never does, and what hangs on the scale."""

from scaleborn.books import Book
from scaleborn.charts import Chart, charted
from scaleborn.checks import need_things
from scaleborn.errors import BadBook, BadPaper, BadSaying, Hanging
from scaleborn.hulls import need_possible
from scaleborn.papers import Denial, Paper
from scaleborn.sayings import Saying


class Always(Paper):
    """A chart at whose outcome lists a saying holds."""

    def __init__(self, chart):
        super().__init__("always", chart)
        self.chart = self.parts[0]


class Never(Paper):
    """A chart at whose outcome lists a saying fails."""

    def __init__(self, chart):
        super().__init__("never", chart)
        self.chart = self.parts[0]


class Hangs(Denial):
    """Two scales: a saying holds at the first and fails at the second."""

    def __init__(self, kept, broken):
        super().__init__("hangs", kept, broken)
        self.kept, self.broken = self.parts


def judged(book, saying):
    """Whether a saying holds at all scales of the book, at none, or hangs."""
    need_saying(book, saying)
    return judged_by(charted(book, saying.pairs), saying)


def judged_by(chart, saying):
    """What the outcome lists of a chart tell of a saying."""
    if type(chart) is not Chart:
        raise BadPaper("chart")
    truths = list(chart.truths(saying))
    if False not in truths:
        return Always(chart)
    if True not in truths:
        return Never(chart)
    return Hangs(chart.scales[truths.index(True)], chart.scales[truths.index(False)])


def truth_in(book, saying):
    """True if a saying is always, False if never, None if it hangs."""
    paper = judged(book, saying)
    return type(paper) is Always if paper else None


def follows(book, one, other):
    """Whether the other saying holds wherever the one does."""
    need_two(book, one, other)
    need_possible(book)
    return judged(book, ~one | other)


def are_same(book, one, other):
    """Whether two sayings agree at each scale of the book."""
    need_two(book, one, other)
    need_possible(book)
    chart = charted(book, (~one | other).pairs)
    return chart.truths(one) == chart.truths(other)


def needed_rows(book, saying):
    """The numbers of the rows that stay when rows are left out from the last on, a saying being always or never."""
    paper = judged(book, saying)
    if not paper:
        raise Hanging(paper.kept, paper.broken)
    stay = list(range(len(book.rows)))
    for number in reversed(range(len(book.rows))):
        fewer = [other for other in stay if other != number]
        if _is_still(book, fewer, number, saying, type(paper) is Always):
            stay = fewer
    return tuple(stay)


def need_saying(book, saying):
    """Raise what stands against asking the book for a saying."""
    if not isinstance(book, Book):
        raise BadBook("book")
    if not isinstance(saying, Saying):
        raise BadSaying("saying")
    need_things(book.things, saying.things)


def need_two(book, one, other):
    """Raise what stands against asking the book for two sayings."""
    if not isinstance(book, Book):
        raise BadBook("book")
    if not isinstance(one, Saying):
        raise BadSaying("one")
    if not isinstance(other, Saying):
        raise BadSaying("other")
    need_things(book.things, one.things)
    need_things(book.things, other.things)


def _is_still(book, fewer, number, saying, truth):
    """Whether a saying has this truth throughout the book of fewer rows, without the one of this number."""
    rows = [book.rows[other] for other in fewer]
    # Without one of two equal rows the scales are the same ones.
    if book.rows[number] in rows:
        return True
    return not any([told != truth for told in charted(Book(book.things, rows), saying.pairs).truths(saying)])
