"""Least sorts for a saying, and the coarsest one, where there is one."""

from scaleborn.carried import carried_by
from scaleborn.charts import charted
from scaleborn.comparisons import Pair
from scaleborn.errors import NotCarried, TooMany, Unlike
from scaleborn.facets import keys_in, sight_of, unlike_pairs
from scaleborn.papers import Denial, Paper
from scaleborn.sorts import Sort, each_once
from scaleborn.wordings import carries, chart_by, divided_in

MOST_FACETS = 15
_MOST_LIVE = 7


class Coarsest(Paper):
    """Facets, and what shows that the sort of their pairs carries the saying."""

    def __init__(self, facets, carried):
        super().__init__("coarsest", facets, carried)
        self.facets, self.carried = self.parts


class TwoLeast(Denial):
    """Two least sorts, and the numbers of two lists that show that their common pairs carry too little."""

    def __init__(self, one, other, first, second, chart):
        super().__init__("twoleast", one, other, first, second, chart)
        self.one, self.other, self.first, self.second, self.chart = self.parts


def least_sort(book, saying, by):
    """The sort that stays when pairs are left out from the last on, without which it still carries the saying."""
    chart = chart_by(book, saying, by)
    numbers = divided_in(chart.cuts_by(chart.places_of(by.pairs)), chart.truths(saying))
    if numbers is not None:
        raise NotCarried(chart.scales[numbers[0]], chart.scales[numbers[1]])
    return _left_of(chart, chart.truths(saying), by.pairs)


def coarsest(book, saying):
    """The sort of the facets, if it carries the saying, otherwise two least sorts."""
    sight = sight_of(book, saying)
    found = sight.all_facets()
    if len(found) > MOST_FACETS:
        raise TooMany("pairs", MOST_FACETS)
    carried = carried_by(book, saying, Sort([facet.pair for facet in found]))
    if carried:
        return Coarsest(found, carried)
    if not book.is_strict:
        raise Unlike("book")
    if len(sight.live) > _MOST_LIVE:
        raise TooMany("pairs", _MOST_LIVE)
    first = _left_of(sight.chart, sight.told, sight.live)
    return _two_least(book, saying, first, [facet.pair for facet in found])


def _two_least(book, saying, first, facets_told):
    """The paper of two least sorts, the first of which is told."""
    spare = [pair for pair in first if pair not in facets_told][-1]
    others = [pair for pair in first if pair != spare]
    sums = [Pair(spare.balance + pair.balance) for pair in others]
    chart = charted(book, each_once([*saying.pairs, *sums]))
    truths = chart.truths(saying)
    second = _left_of(chart, truths, unlike_pairs(book, [*others, *sums]))
    keys = keys_in(book, second.pairs)
    common = [pair for pair, key in zip(first.pairs, keys_in(book, first.pairs)) if key in keys]
    one, other = divided_in(chart.cuts_by(chart.places_of(common)), truths)
    return TwoLeast(one, other, first, second, chart)


def _left_of(chart, truths, pairs):
    """The sort of the pairs that stay when these, which carry what has the truths, are left out from the last on."""
    stay = list(pairs)
    for pair in list(pairs)[::-1]:
        fewer = [other for other in stay if other != pair]
        if carries(chart, fewer, truths):
            stay = fewer
    return Sort(stay)
