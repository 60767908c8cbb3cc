"""Checks of verdicts."""

from scaleborn.check_charts import has_pairs, is_chart_of
from scaleborn.check_rounds import is_scale_of
from scaleborn.sayings import yes
from scaleborn.verdicts import Always, Hangs, Never, need_saying, need_two


def shows_judged(book, saying, value):
    """Whether any value tells rightly whether a saying is always, never, or hangs."""
    need_saying(book, saying)
    return _is_right(book, yes(), saying, value)


def shows_follows(book, one, other, value):
    """Whether any value tells rightly whether the other saying follows from the one."""
    need_two(book, one, other)
    return _is_right(book, one, other, value)


def _is_right(book, one, other, value):
    """Whether any value tells rightly what "not the one, or the other" does.

    That saying itself is not made: it can have too many parts.
    """
    if type(value) is Hangs:
        return (is_scale_of(book, value.kept) and _holds(one, other, value.kept)
                and is_scale_of(book, value.broken) and not _holds(one, other, value.broken))
    if type(value) is not Always and type(value) is not Never:
        return False
    if not is_chart_of(book, value.chart) or not has_pairs(value.chart, [*one.pairs, *other.pairs]):
        return False
    truths = [not mine or its for mine, its in zip(value.chart.truths(one), value.chart.truths(other))]
    return all(truths) if type(value) is Always else not any(truths)


def _holds(one, other, scale):
    """Whether the one fails at a scale, or the other holds."""
    return not one.holds(scale) or other.holds(scale)
