"""Fractions, and the places of ratios among them."""

from math import lcm

from scaleborn.balances import Balance
from scaleborn.books import Book
from scaleborn.checks import is_name, is_within
from scaleborn.comparisons import compared
from scaleborn.errors import BadBook, BadNumber, BadScale, NotAbove, NoThing, Twice
from scaleborn.hulls import need_possible
from scaleborn.ratios import Ratio, is_ratio
from scaleborn.rounds import fit_rows
from scaleborn.scales import Scale

_MOST = 60
_MOST_COPIES = 4


def fractions_to(most):
    """The fractions with tops and bottoms from 1 to most, ascending."""
    if not is_within(most, 1, _MOST):
        raise BadNumber("most")
    counts = list(range(1, most + 1))
    bottom = 1
    for count in counts:
        bottom = lcm(bottom, count)
    tops = {top * (bottom // below): True for top in counts for below in counts}
    return tuple([Ratio(top, bottom) for top in sorted(list(tops))])


def neighbours_of(ratio, most):
    """The greatest fraction that is at most the ratio, and the least one that is at least it."""
    if not is_ratio(ratio):
        raise BadNumber("ratio")
    told = Ratio.of(ratio)
    gaps = [[told.top * fraction.bottom - fraction.top * told.bottom, fraction] for fraction in fractions_to(most)]
    lows = [fraction for gap, fraction in gaps if gap >= 0]
    highs = [fraction for gap, fraction in gaps if gap <= 0]
    return (lows[-1] if len(lows) > 0 else None, highs[0] if len(highs) > 0 else None)


def place_at(scale, one, other, most):
    """The place of one thing against another one at a scale."""
    if not isinstance(scale, Scale):
        raise BadScale("scale")
    _need_two(scale.things, one, other, most)
    worths = [scale.worth(Balance.of(thing)) for thing in (one, other)]
    if worths[0].sign < 1 or worths[1].sign < 1:
        raise NotAbove(scale)
    return neighbours_of(worths[0].over(worths[1]), most)


def places_in(book, one, other, most):
    """The places of one thing against another one at the scales of the book, ascending."""
    if not isinstance(book, Book):
        raise BadBook("book")
    _need_two(book.things, one, other, most)
    need_possible(book)
    for thing in (one, other):
        paper = fit_rows(book.things, [*book.rows, compared(Balance({}), ">=", Balance.of(thing))])
        if paper:
            raise NotAbove(paper.scale)
    return tuple([place for place in _places_among(fractions_to(most)) if _is_had(book, one, other, place)])


def _need_two(things, one, other, most):
    """Raise what is wrong with two things and a greatest number of copies."""
    for thing in (one, other):
        if not is_name(thing) or thing not in things:
            raise NoThing(thing)
    if not is_within(most, 1, _MOST_COPIES):
        raise BadNumber("most")
    if one == other:
        raise Twice(one)


def _places_among(fractions):
    """All places among ascending fractions, ascending."""
    places = [(None, fractions[0])]
    for at, fraction in enumerate(fractions):
        places.append((fraction, fraction))
        places.append((fraction, fractions[at + 1] if at + 1 < len(fractions) else None))
    return places


def _is_had(book, one, other, place):
    """Whether one thing has this place against the other one at some scale of the book."""
    mine, its = Balance.of(one), Balance.of(other)
    low, high = place
    if low == high:
        rows = [compared(mine, "=", its * low)]
    else:
        rows = [compared(mine, ">", its * low)] if low is not None else []
        rows.extend([compared(its * high, ">", mine)] if high is not None else [])
    return bool(fit_rows(book.things, [*book.rows, *rows]))
