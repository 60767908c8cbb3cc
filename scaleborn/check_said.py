"""Checks of what is said by sayings, and of finer sorts."""

from math import comb

from scaleborn.carried import Divided
from scaleborn.check_charts import has_pairs, is_chart_of
from scaleborn.check_rounds import is_scale_of
from scaleborn.checks import is_within
from scaleborn.choosing import ascending
from scaleborn.finer import Coarser, Finer, decides_all, need_sorts
from scaleborn.said import Fewest, SaidBy, Telling, need_told


def shows_said(book, told, saying, value):
    """Whether any value tells rightly whether told sayings say a saying."""
    need_told(book, told, saying)
    if type(value) is Divided:
        return _is_divided(book, told, saying, value)
    if type(value) is not SaidBy or not _has_chart(book, told, saying, value.chart):
        return False
    telling = Telling(value.chart, told, saying)
    if telling.parted_at_all() is not None:
        return False
    return _are_ways(value.truths) and value.truths == telling.ways()


def shows_fewest(book, told, saying, value):
    """Whether any value tells rightly the fewest told sayings that say a saying, or that not even all do."""
    need_told(book, told, saying)
    if type(value) is Divided:
        return _is_divided(book, told, saying, value)
    if type(value) is not Fewest or not _has_chart(book, told, saying, value.chart):
        return False
    numbers = value.numbers
    if not are_ascending(numbers, len(told)):
        return False
    telling = Telling(value.chart, told, saying)
    if telling.parted_by(numbers) is not None:
        return False
    many = comb(len(told), len(numbers) - 1) if len(numbers) > 0 else 0
    if not isinstance(value.parted, tuple) or len(value.parted) != many:
        return False
    fewer = ascending(len(told), len(numbers) - 1) if many > 0 else []
    return all([_parts(telling, some, pair) for some, pair in zip(fewer, value.parted)])


def shows_finer(book, one, other, value):
    """Whether any value tells rightly whether one sort is finer than another one."""
    need_sorts(book, one, other)
    if type(value) is Finer:
        return (is_chart_of(book, value.chart) and has_pairs(value.chart, [*one.pairs, *other.pairs])
                and decides_all(value.chart, one, other))
    if type(value) is not Coarser or value.pair not in other:
        return False
    if not is_scale_of(book, value.one) or not is_scale_of(book, value.other):
        return False
    return (value.one.outcomes(one) == value.other.outcomes(one)
            and value.one.outcome(value.pair) > value.other.outcome(value.pair))


def are_ascending(value, many):
    """Whether any value is a tuple of ascending numbers below many, each once."""
    if not isinstance(value, tuple) or not all([is_within(number, 0, many - 1) for number in value]):
        return False
    return all([value[at] < value[at + 1] for at in range(len(value) - 1)])


def _has_chart(book, told, saying, value):
    """Whether any value is a right chart of the book that has all pairs of told sayings and of a saying."""
    return is_chart_of(book, value) and all([has_pairs(value, one.pairs) for one in [*told, saying]])


def _is_divided(book, told, saying, value):
    """Whether the scales of a Divided agree on told sayings and divide a saying."""
    if not is_scale_of(book, value.one) or not is_scale_of(book, value.other):
        return False
    if not all([one.holds(value.one) == one.holds(value.other) for one in told]):
        return False
    return saying.holds(value.one) and not saying.holds(value.other)


def _are_ways(value):
    """Whether any value is a tuple of pairs of a tuple of truths and of one more, which are no numbers."""
    if not isinstance(value, tuple) or not all([isinstance(way, tuple) and len(way) == 2 for way in value]):
        return False
    return all([isinstance(known, tuple) and _are_truths([*known, held]) for known, held in value])


def _are_truths(values):
    """Whether all of any values are truths."""
    return all([isinstance(value, bool) for value in values])


def _parts(telling, numbers, value):
    """Whether any value is a pair of lists alike for the told ones of these numbers that divide the saying."""
    if not isinstance(value, tuple) or len(value) != 2:
        return False
    if not all([is_within(number, 0, len(telling.known) - 1) for number in value]):
        return False
    kept, broken = value
    if not all([telling.known[kept][number] == telling.known[broken][number] for number in numbers]):
        return False
    return telling.held[kept] and not telling.held[broken]
