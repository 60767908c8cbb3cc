"""Facets: comparisons that stand in each sort that carries a saying."""

from scaleborn.charts import charted
from scaleborn.comparisons import Pair
from scaleborn.hulls import need_possible, reduced_alikes, swept_by
from scaleborn.papers import Paper
from scaleborn.verdicts import need_saying


class Facet(Paper):
    """A facet, the numbers of three outcome lists that show it, and their chart."""

    def __init__(self, pair, more, alike, less, chart):
        super().__init__("facet", pair, more, alike, less, chart)
        self.pair, self.more, self.alike, self.less, self.chart = self.parts


class Sight:
    """The live pairs of a saying, and what the outcome lists of a chart tell of them."""

    def __init__(self, chart, live, cuts, told):
        # For each outcome list of the chart: its outcomes of the live pairs, and whether the saying holds.
        self.chart, self.live, self.cuts, self.told = chart, live, cuts, told
        self.numbers = {cut: number for number, cut in enumerate(cuts)}

    def all_facets(self):
        """The facets, in the order of the live pairs."""
        found = []
        for place, pair in enumerate(self.live):
            shown = [numbers for numbers in self._beside_alike(place) if self._is_divided(numbers)]
            if len(shown) > 0:
                more, alike, less = shown[0]
                found.append(Facet(pair, more, alike, less, self.chart))
        return tuple(found)

    def numbers_beside(self, number):
        """The numbers of the lists that lie beside the one with this number."""
        cut = self.cuts[number]
        return [other for other, its in enumerate(self.cuts)
                if 0 not in its and all([mine in (0, told) for mine, told in zip(cut, its)])]

    def _beside_alike(self, place):
        """The numbers of lists that are equal but for this place, where they have 1, 0 and -1, without another 0."""
        found = []
        for number, cut in enumerate(self.cuts):
            alike, less = [(*cut[:place], outcome, *cut[place + 1:]) for outcome in (0, -1)]
            if cut[place] == 1 and 0 not in cut and alike in self.numbers and less in self.numbers:
                found.append((number, self.numbers[alike], self.numbers[less]))
        return found

    def _is_divided(self, numbers):
        """Whether the saying holds at some of these lists and fails at others."""
        truths = [self.told[number] for number in numbers]
        return True in truths and False in truths


def live_pairs(book, saying):
    """The pairs of a saying without those held alike, and without those that are one with one ahead."""
    need_saying(book, saying)
    need_possible(book)
    return unlike_pairs(book, saying.pairs)


def facets(book, saying):
    """The facets of a saying in the book, each with what shows it."""
    return sight_of(book, saying).all_facets()


def sight_of(book, saying):
    """What a chart of the saying's pairs tells of its live ones."""
    need_saying(book, saying)
    return sight_in(book, saying, charted(book, saying.pairs))


def sight_in(book, saying, chart):
    """What a chart that has all pairs of the saying tells of its live ones."""
    live = unlike_pairs(book, saying.pairs)
    return Sight(chart, live, chart.cuts_by(chart.places_of(live)), chart.truths(saying))


def unlike_pairs(book, pairs):
    """Those of the pairs that are neither held alike in a possible book, nor one with one ahead."""
    found = {}
    for pair, key in zip(pairs, keys_in(book, pairs)):
        if key != ():
            found.setdefault(key, pair)
    return tuple(list(found.values()))


def keys_in(book, pairs):
    """For each pair a tuple that it shares with just those that are one with it in a possible book.

    It is () for a pair that is held alike.
    """
    held = reduced_alikes(book)
    swept = [swept_by(held, pair.balance) for pair in pairs]
    return [() if left.is_nothing else Pair(left).balance.key for left in swept]
