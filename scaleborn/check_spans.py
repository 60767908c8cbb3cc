"""Checks of spans, by adding up and by putting scales and ways in."""

from scaleborn.check_rounds import are_weights, is_scale_of
from scaleborn.comparisons import Comparison
from scaleborn.ratios import is_ratio
from scaleborn.scales import Scale
from scaleborn.spans import Span, end_gap, need_balances


def shows_span(book, one, other, value):
    """Whether any value tells the ends of a ratio rightly."""
    need_balances(book, one, other)
    if type(value) is not Span or not _is_end(value.lowest) or not _is_end(value.highest):
        return False
    turned = None if value.highest is None else value.highest * -1
    return _shows_low(book, one, other, value.lowest, value.low) and _shows_low(book, -one, other, turned, value.high)


def _is_end(value):
    """Whether any value is a ratio or None."""
    return value is None or is_ratio(value)


def _shows_low(book, one, other, end, value):
    """Whether any value is what shows a low end, or that there is none."""
    if not isinstance(value, tuple) or len(value) != 3:
        return False
    weights, scale, way = value
    if not is_scale_of(book, scale):
        return False
    if end is None:
        return weights is None and _is_way(book, way) and way.worth(other).sign == 0 and way.worth(one).sign < 0
    gap = end_gap(one, other, end)
    at = scale if way is None else way
    if way is not None and not _is_way(book, way) or at.worth(other).sign < 1 or at.worth(gap).sign != 0:
        return False
    if gap.is_nothing:
        # Then each scale has the end: it is reached.
        return weights is None and way is None
    further = Comparison(gap, ">" if way is None else ">=")
    return are_weights(book.things, [*book.rows, further], weights)


def _is_way(book, value):
    """Whether any value is a way of the book."""
    if not isinstance(value, Scale) or value.things != book.things:
        return False
    signs = [[row.kind, value.worth(row.balance).sign] for row in book.rows]
    return all([sign == 0 or sign > 0 and kind != "=" for kind, sign in signs])
