"""Fractions around the ends of a ratio, and simple ratios between others."""

from scaleborn.balances import Balance
from scaleborn.books import Book
from scaleborn.checks import is_name
from scaleborn.errors import BadBook, BadNumber, NoThing, Twice
from scaleborn.fractions import fractions_to, neighbours_of
from scaleborn.ratios import Ratio, is_ratio
from scaleborn.spans import span


def pinned(book, one, other, most):
    """The greatest fraction that is not above the low end of two things, and the least one not below the high end."""
    if not isinstance(book, Book):
        raise BadBook("book")
    for thing in (one, other):
        if not is_name(thing) or thing not in book.things:
            raise NoThing(thing)
    fractions_to(most)
    if one == other:
        raise Twice(one)
    paper = span(book, Balance.of(one), Balance.of(other))
    low = None if paper.lowest is None else neighbours_of(paper.lowest, most)[0]
    high = None if paper.highest is None else neighbours_of(paper.highest, most)[1]
    return low, high


def simplest_between(low, high):
    """The ratio of the least top and bottom strictly between two ratios, or above the first one alone."""
    if not is_ratio(low) or Ratio.of(low).sign < 0:
        raise BadNumber("low")
    if high is not None and (not is_ratio(high) or not Ratio.of(low).is_below(high)):
        raise BadNumber("high")
    return _simplest(Ratio.of(low), None if high is None else Ratio.of(high))


def copies_to_part(one, other):
    """The least number of copies of each that part two ratios above 0, None if they are equal."""
    if not is_ratio(one) or Ratio.of(one).sign < 1:
        raise BadNumber("one")
    if not is_ratio(other) or Ratio.of(other).sign < 1:
        raise BadNumber("other")
    mine, its = Ratio.of(one), Ratio.of(other)
    if mine == its:
        return None
    inner = _simplest(mine, its) if mine.is_below(its) else _simplest(its, mine)
    return min([max(ratio.top, ratio.bottom) for ratio in (mine, its, inner)])


def _simplest(low, high):
    """The simplest ratio strictly between two Ratios, the low one from 0 on; None is no high one.

    As long as no integer lies between, both have one integer part: what is sought is that and 1 by
    the simplest ratio between what 1 by the rests is, exchanged.
    """
    parts = []
    while high is not None and not Ratio(low.below + 1).is_below(high):
        part = low.below
        parts.append(part)
        rest = low - part
        low, high = Ratio(1).over(high - part), None if rest.sign == 0 else Ratio(1).over(rest)
    found = Ratio(low.below + 1)
    for part in parts[::-1]:
        found = Ratio(1).over(found) + part
    return found
