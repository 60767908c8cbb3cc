"""Checks of wordings, and of what a sort carries."""

from scaleborn.carried import Carried, Divided
from scaleborn.charts import are_outcomes
from scaleborn.check_charts import has_pairs, is_chart_of
from scaleborn.check_rounds import is_scale_of
from scaleborn.sayings import Saying
from scaleborn.wordings import Wordings, need_by, wordings_in


def shows_wordings(book, saying, by, value):
    """Whether any value tells both wordings rightly."""
    need_by(book, saying, by)
    if type(value) is not Wordings or not _has_chart(book, saying, by, value.chart):
        return False
    if not _are_fulls(value.outer, len(by)) or not _are_fulls(value.inner, len(by)):
        return False
    return wordings_in(value.chart, saying, by) == (value.outer, value.inner)


def shows_carried(book, saying, by, value):
    """Whether any value tells rightly whether the sort carries the saying."""
    need_by(book, saying, by)
    if type(value) is Divided:
        return (is_scale_of(book, value.one) and is_scale_of(book, value.other)
                and value.one.outcomes(by) == value.other.outcomes(by)
                and saying.holds(value.one) and not saying.holds(value.other))
    if type(value) is not Carried or not _has_chart(book, saying, by, value.chart):
        return False
    if not isinstance(value.wording, Saying) or not all([pair in by for pair in value.wording.pairs]):
        return False
    return value.chart.truths(value.wording) == value.chart.truths(saying)


def _has_chart(book, saying, by, value):
    """Whether any value is a right chart of the book that has all pairs of sort and saying."""
    return is_chart_of(book, value) and has_pairs(value, [*by.pairs, *saying.pairs])


def _are_fulls(value, many):
    """Whether any value is a tuple of lists of so many outcomes."""
    return isinstance(value, tuple) and all([are_outcomes(full, many) for full in value])
