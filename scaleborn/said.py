"""What is said by told sayings: no two scales agree on all of them and divide it."""

from scaleborn.books import Book
from scaleborn.carried import Divided
from scaleborn.charts import charted
from scaleborn.checks import is_list, need_things
from scaleborn.choosing import ascending
from scaleborn.errors import BadBook, BadSaying, NotCarried, TooMany
from scaleborn.hulls import need_possible
from scaleborn.papers import Paper
from scaleborn.sayings import Saying, both_of, either_of
from scaleborn.sorts import each_once
from scaleborn.wordings import divided_in

_MOST_TOLD = 4


class SaidBy(Paper):
    """The truths of a saying, by those of told sayings, and a chart."""

    def __init__(self, truths, chart):
        super().__init__("saidby", truths, chart)
        self.truths, self.chart = self.parts


class Fewest(Paper):
    """The numbers of the fewest told sayings that say a saying, a chart, and what divides it for fewer."""

    def __init__(self, numbers, chart, parted):
        super().__init__("fewest", numbers, chart, parted)
        self.numbers, self.chart, self.parted = self.parts


class Telling:
    """What the outcome lists of a chart tell of told sayings and of a saying."""

    def __init__(self, chart, told, saying):
        columns = [chart.truths(one) for one in told]
        self.chart = chart
        # For each outcome list the tuple of the truths of the told ones, and that of the saying.
        self.known = [tuple([column[number] for column in columns]) for number in range(len(chart))]
        self.held = chart.truths(saying)

    def ways(self):
        """The pairs of the truths of the told ones and that of the saying, each once, descending."""
        found = {(known, held): True for known, held in zip(self.known, self.held)}
        return tuple(sorted(list(found), reverse=True))

    def parted_by(self, numbers):
        """Two lists alike for the told ones of these numbers that divide the saying, None if there are none."""
        return divided_in([tuple([known[number] for number in numbers]) for known in self.known], self.held)

    def parted_at_all(self):
        """Two lists alike for all told ones that divide the saying, None if there are none."""
        return divided_in(self.known, self.held)

    def divided_at(self, numbers):
        """The denial of the scales of the lists with these two numbers."""
        return Divided(self.chart.scales[numbers[0]], self.chart.scales[numbers[1]])


def said_by(book, told, saying):
    """The truths of a saying by those of told ones that say it, or two scales that show that they do not."""
    telling = _telling_of(book, told, saying)
    numbers = telling.parted_at_all()
    return telling.divided_at(numbers) if numbers is not None else SaidBy(telling.ways(), telling.chart)


def said_saying(book, told, saying):
    """A saying made of told ones that is true at just the scales at which the saying is."""
    paper = said_by(book, told, saying)
    if not paper:
        raise NotCarried(paper.one, paper.other)
    return either_of([both_of([one if truth else ~one for one, truth in zip(told, known)])
                      for known, held in paper.truths if held])


def fewest_said(book, told, saying):
    """The fewest told sayings that say a saying, or two scales that show that not even all do."""
    telling = _telling_of(book, told, saying)
    numbers = telling.parted_at_all()
    if numbers is not None:
        return telling.divided_at(numbers)
    count = 0
    while len(_enough(telling, len(told), count)) == 0:
        count += 1
    fewer = ascending(len(told), count - 1) if count > 0 else []
    return Fewest(_enough(telling, len(told), count)[0], telling.chart, [telling.parted_by(some) for some in fewer])


def need_told(book, told, saying):
    """Raise what stands against asking the book for a saying by told ones."""
    if not isinstance(book, Book):
        raise BadBook("book")
    if not is_list(told) or not all([isinstance(one, Saying) for one in told]):
        raise BadSaying("told")
    if not isinstance(saying, Saying):
        raise BadSaying("saying")
    for one in told:
        need_things(book.things, one.things)
    need_things(book.things, saying.things)


def _telling_of(book, told, saying):
    """What a chart of all their pairs tells of told sayings and of a saying."""
    need_told(book, told, saying)
    need_possible(book)
    if len(told) > _MOST_TOLD:
        raise TooMany("told", _MOST_TOLD)
    pairs = [pair for one in [*told, saying] for pair in one.pairs]
    return Telling(charted(book, each_once(pairs)), told, saying)


def _enough(telling, many, count):
    """Those of the sets of so many numbers of told sayings that say the saying."""
    return [numbers for numbers in ascending(many, count) if telling.parted_by(numbers) is None]
