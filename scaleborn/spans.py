"""How many times as much: the ends between which the ratio of two balances lies."""

from scaleborn.balances import Balance, wholes_of
from scaleborn.books import Book
from scaleborn.checks import need_things
from scaleborn.comparisons import Comparison
from scaleborn.errors import BadBalance, BadBook, BadScale, NotAbove
from scaleborn.hulls import need_possible
from scaleborn.papers import Paper
from scaleborn.rounds import fit, fit_rows
from scaleborn.scales import Scale
from scaleborn.solving import divided, solved


class Span(Paper):
    """The low and the high end of a ratio, and for each what shows it."""

    def __init__(self, lowest, highest, low, high):
        super().__init__("span", lowest, highest, low, high)
        self.lowest, self.highest, self.low, self.high = self.parts


def span(book, one, other):
    """The ends of the ratio of one balance to another one that is above 0 at all scales."""
    need_balances(book, one, other)
    need_possible(book)
    _need_above(book, other)
    lowest, low = _low_end(book, one, other)
    # The high end is the low end of the one turned, turned again; what shows them is the same.
    turned, high = _low_end(book, -one, other)
    return Span(lowest, None if turned is None else -turned, low, high)


def ratio_at(scale, one, other):
    """The ratio of one balance to another one at a scale."""
    if not isinstance(scale, Scale):
        raise BadScale("scale")
    _need_both(one, other)
    need_things(scale.things, one.things)
    need_things(scale.things, other.things)
    if scale.worth(other).sign < 1:
        raise NotAbove(scale)
    return scale.worth(one).over(scale.worth(other))


def need_balances(book, one, other):
    """Raise what stands against asking the book for the ratio of two balances."""
    if not isinstance(book, Book):
        raise BadBook("book")
    _need_both(one, other)
    need_things(book.things, one.things)
    need_things(book.things, other.things)


def end_gap(one, other, end):
    """What is nothing, or never above 0 where the ratio is never below the end: the end times other less one."""
    return other * end - one


def _need_both(one, other):
    """Raise BadBalance for what is no balance."""
    if not isinstance(one, Balance):
        raise BadBalance("one")
    if not isinstance(other, Balance):
        raise BadBalance("other")


def _need_above(book, other):
    """Raise NotAbove if a balance is not above 0 at all scales of a possible book."""
    if other.is_nothing:
        raise NotAbove(fit(book).scale)
    paper = fit_rows(book.things, [*book.rows, Comparison(-other, ">=")])
    if paper:
        raise NotAbove(paper.scale)


def _low_end(book, one, other):
    """The low end, None for none, and the weights, the scale and the way that show it."""
    scale = fit(book).scale
    way = _lowest_way(book, one, other)
    if way is None:
        return None, (None, scale, _falling_way(book, one, other))
    end = way.worth(one).over(way.worth(other))
    gap = end_gap(one, other, end)
    if gap.is_nothing:
        return end, (None, scale, None)
    reached = fit_rows(book.things, [*book.rows, Comparison(gap, "=")])
    barred = fit_rows(book.things, [*book.rows, Comparison(gap, ">" if reached else ">=")])
    if reached:
        return end, (barred.weights, reached.scale, None)
    return end, (barred.weights, scale, way)


def _lowest_way(book, one, other):
    """A way at which other is above 0 and the ratio least, None if there is no least one.

    It is looked for together with what shows that it is least: numbers of the rows, from 0 on for
    rows > and >=, that add up to other's worth at the way times one, less one's worth times other.
    Then that balance is 0 or more at all ways. Multiples of one and of other change nothing in it.
    """
    mine, its = wholes_of(one.least(), book.things), wholes_of(other.least(), book.things)
    wholes = [wholes_of(row.balance, book.things) for row in book.rows]
    closed = ["=" if row.kind == "=" else ">=" for row in book.rows]
    none, zeros = [0] * len(wholes), [0] * len(book.things)
    rows = [[*whole, *none] for whole in wholes]
    kinds = list(closed)
    for at, kind in enumerate(closed):
        if kind == ">=":
            rows.append([*zeros, *none[:at], 1, *none[at + 1:]])
            kinds.append(">=")
    for at in range(len(zeros)):
        less = [its[at] * number - mine[at] * further for number, further in zip(mine, its)]
        rows.append([*less, *[whole[at] for whole in wholes]])
        kinds.append("=")
    numbers, _ = solved([*rows, [*its, *none]], [*kinds, ">"], len(zeros) + len(none))
    return None if numbers is None else _scale_of(book, numbers)


def _falling_way(book, one, other):
    """A way at which other is 0 and one below 0."""
    wholes = [wholes_of(row.balance, book.things) for row in book.rows]
    kinds = ["=" if row.kind == "=" else ">=" for row in book.rows]
    mine, its = wholes_of((-one).least(), book.things), wholes_of(other.least(), book.things)
    numbers, _ = solved([*wholes, its, mine], [*kinds, "=", ">"], len(book.things))
    return _scale_of(book, numbers)


def _scale_of(book, numbers):
    """The scale of a book's things with these worths, without a common divisor."""
    return Scale(dict(zip(book.things, divided(numbers[:len(book.things)]))))
