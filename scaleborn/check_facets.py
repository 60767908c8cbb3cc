"""Checks of facets, of whole sayings, and of coarsest sorts."""

from scaleborn.carried import Carried
from scaleborn.check_charts import has_pairs, is_chart_of
from scaleborn.check_wordings import shows_carried
from scaleborn.checks import is_integer, is_within
from scaleborn.coarsest import MOST_FACETS, Coarsest, TwoLeast
from scaleborn.comparisons import Pair
from scaleborn.facets import Facet, keys_in, sight_in
from scaleborn.sorts import Sort, each_once
from scaleborn.verdicts import need_saying
from scaleborn.whole import Ragged, Whole
from scaleborn.wordings import carries


def shows_facet(book, saying, value):
    """Whether any value is a right facet of a saying."""
    need_saying(book, saying)
    return _is_facet(book, saying, value)


def shows_whole(book, saying, value):
    """Whether any value tells rightly whether a saying is whole."""
    need_saying(book, saying)
    if type(value) is not Whole and type(value) is not Ragged:
        return False
    if not _has_chart(book, saying, value.chart):
        return False
    sight = sight_in(book, saying, value.chart)
    if type(value) is Ragged:
        return _is_ragged(sight, value)
    return all([sight.told[number] == _holds_beside(sight, number) for number in range(len(value.chart))])


def shows_coarsest(book, saying, value):
    """Whether any value is the coarsest sort, or two least ones that show that there is none."""
    need_saying(book, saying)
    if type(value) is Coarsest:
        return _is_coarsest(book, saying, value)
    # With rows >= a sort need not have the facets of what it carries, so two least ones show nothing.
    return type(value) is TwoLeast and book.is_strict and _are_two(book, saying, value)


def _has_chart(book, saying, value):
    """Whether any value is a right chart of the book that has all pairs of the saying."""
    return is_chart_of(book, value) and has_pairs(value, saying.pairs)


def _is_facet(book, saying, value):
    """Whether any value is a right facet."""
    if type(value) is not Facet or not isinstance(value.pair, Pair) or not _has_chart(book, saying, value.chart):
        return False
    sight = sight_in(book, saying, value.chart)
    numbers = [value.more, value.alike, value.less]
    if value.pair not in sight.live or not all([is_within(number, 0, len(value.chart) - 1) for number in numbers]):
        return False
    place = sight.live.index(value.pair)
    cuts = [sight.cuts[number] for number in numbers]
    others = [(*cut[:place], *cut[place + 1:]) for cut in cuts]
    if [cut[place] for cut in cuts] != [1, 0, -1] or 0 in others[0] or others != [others[0]] * 3:
        return False
    truths = [sight.told[number] for number in numbers]
    return True in truths and False in truths


def _is_ragged(sight, value):
    """Whether the numbers of a Ragged show that a saying is not whole."""
    if not is_within(value.at, 0, len(sight.told) - 1):
        return False
    if value.beside is None:
        return not sight.told[value.at] and _holds_beside(sight, value.at)
    if not is_integer(value.beside) or value.beside not in sight.numbers_beside(value.at):
        return False
    return sight.told[value.at] and not sight.told[value.beside]


def _holds_beside(sight, number):
    """Whether the saying holds at all lists that lie beside the one with this number."""
    return all([sight.told[other] for other in sight.numbers_beside(number)])


def _is_coarsest(book, saying, value):
    """Whether a Coarsest is right."""
    if not isinstance(value.facets, tuple) or len(value.facets) > MOST_FACETS:
        return False
    if not all([_is_facet(book, saying, facet) for facet in value.facets]):
        return False
    pairs = [facet.pair for facet in value.facets]
    if len(each_once(pairs)) < len(pairs):
        return False
    return type(value.carried) is Carried and shows_carried(book, saying, Sort(pairs), value.carried)


def _are_two(book, saying, value):
    """Whether a TwoLeast is right, in a strict book."""
    first, second, chart = value.first, value.second, value.chart
    if not isinstance(first, Sort) or not isinstance(second, Sort) or not _has_chart(book, saying, chart):
        return False
    if not has_pairs(chart, [*first.pairs, *second.pairs]):
        return False
    truths = chart.truths(saying)
    if not _is_least(chart, first.pairs, truths) or not _is_least(chart, second.pairs, truths):
        return False
    # As both are least, no pair of theirs is held alike: a key tells which ones are one in the book.
    keys = keys_in(book, second.pairs)
    common = [pair for pair, key in zip(first.pairs, keys_in(book, first.pairs)) if key in keys]
    if not all([is_within(number, 0, len(chart) - 1) for number in (value.one, value.other)]):
        return False
    # If one had all pairs of the other, the common ones would carry the saying: no such two lists would divide it.
    cuts = chart.cuts_by(chart.places_of(common))
    return cuts[value.one] == cuts[value.other] and truths[value.one] != truths[value.other]


def _is_least(chart, pairs, truths):
    """Whether these pairs carry what has the truths, and do not without any one of them."""
    if not carries(chart, pairs, truths):
        return False
    return not any([carries(chart, [*pairs[:at], *pairs[at + 1:]], truths) for at in range(len(pairs))])
