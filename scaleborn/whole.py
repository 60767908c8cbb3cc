"""Whole sayings: what holds at ties just if it holds at all that lies beside."""

from scaleborn.facets import sight_of
from scaleborn.papers import Denial, Paper


class Whole(Paper):
    """A chart that shows that a saying is whole."""

    def __init__(self, chart):
        super().__init__("whole", chart)
        self.chart = self.parts[0]


class Ragged(Denial):
    """The number of a list, and that of one beside it that the saying does not agree with, or None."""

    def __init__(self, at, beside, chart):
        super().__init__("ragged", at, beside, chart)
        self.at, self.beside, self.chart = self.parts


def whole_in(book, saying):
    """Whether a saying is whole in the book, and what shows it."""
    sight = sight_of(book, saying)
    for at, truth in enumerate(sight.told):
        broken = [number for number in sight.numbers_beside(at) if not sight.told[number]]
        if truth and len(broken) > 0:
            return Ragged(at, broken[0], sight.chart)
        if not truth and len(broken) == 0:
            return Ragged(at, None, sight.chart)
    return Whole(sight.chart)
