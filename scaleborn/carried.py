"""What a sort carries."""

from scaleborn.papers import Denial, Paper
from scaleborn.told_wordings import short_wording
from scaleborn.wordings import chart_by, divided_in


class Carried(Paper):
    """A told wording of a saying, and a chart."""

    def __init__(self, wording, chart):
        super().__init__("carried", wording, chart)
        self.wording, self.chart = self.parts


class Divided(Denial):
    """Two scales that agree on a sort: a saying holds at one and fails at the other."""

    def __init__(self, one, other):
        super().__init__("divided", one, other)
        self.one, self.other = self.parts


def carried_by(book, saying, by):
    """A told wording of a saying by a sort, or two scales that show that there is none."""
    chart = chart_by(book, saying, by)
    fulls = chart.cuts_by(chart.places_of(by.pairs))
    truths = chart.truths(saying)
    numbers = divided_in(fulls, truths)
    if numbers is not None:
        return Divided(chart.scales[numbers[0]], chart.scales[numbers[1]])
    return Carried(short_wording(by, chart.cut(by), [full for full, truth in zip(fulls, truths) if truth]), chart)
