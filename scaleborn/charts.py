"""Charts: the outcome lists of some pairs in a book, and what shows that there are no others."""

from scaleborn.balances import wholes_of
from scaleborn.books import Book
from scaleborn.checks import is_list, is_within, need_things
from scaleborn.comparisons import Pair
from scaleborn.errors import BadBook, BadNumber, BadPair, BadSaying, BadScale, NoPair, TooMany
from scaleborn.hulls import need_possible
from scaleborn.papers import Paper
from scaleborn.sayings import Saying
from scaleborn.scales import Scale
from scaleborn.solving import dot, solved
from scaleborn.sorts import told_pairs

_MOST_PAIRS = 20
_MOST_LISTS = 250

# In the order in which outcome lists descend.
OUTCOMES = (1, 0, -1)


class Chart(Paper):
    """All outcome lists of some pairs in a book, a scale for each, and a tree."""

    def __init__(self, pairs, lists, scales, tree):
        super().__init__("chart", pairs, lists, scales, tree)
        self.pairs, self.lists, self.scales, self.tree = self.parts

    def __len__(self):
        return len(self.lists)

    def number_of(self, outcomes):
        """The number of an outcome list, None for any other value."""
        if not are_outcomes(outcomes, len(self.pairs)):
            return None
        wanted = tuple(outcomes)
        for number, found in enumerate(self.lists):
            if found == wanted:
                return number
        return None

    def has(self, outcomes):
        """Whether any value is one of the outcome lists."""
        return self.number_of(outcomes) is not None

    def scale_at(self, number):
        """The scale of the outcome list with this number."""
        if not is_within(number, 0, len(self.lists) - 1):
            raise BadNumber("number")
        return self.scales[number]

    def list_of(self, scale):
        """The outcomes of the pairs at any scale with their things."""
        if not isinstance(scale, Scale):
            raise BadScale("scale")
        return scale.outcomes(self.pairs)

    def outcomes_of(self, pair):
        """Those of 1, 0, -1 that the pair has in outcome lists."""
        if not isinstance(pair, Pair):
            raise BadPair("pair")
        place = self.places_of([pair])[0]
        had = [outcomes[place] for outcomes in self.lists]
        return tuple([outcome for outcome in OUTCOMES if outcome in had])

    def cut(self, pairs):
        """The outcome lists of some of the pairs alone."""
        cuts = set(self.cuts_by(self.places_of(told_pairs(pairs))))
        return tuple(sorted(cuts, reverse=True))

    def agreeing(self, pairs):
        """The numbers of the outcome lists that are equal for some of the pairs, together."""
        groups = {}
        for number, told in enumerate(self.cuts_by(self.places_of(told_pairs(pairs)))):
            groups.setdefault(told, []).append(number)
        return tuple([tuple(numbers) for numbers in groups.values()])

    def truths(self, saying):
        """For each outcome list whether the saying holds at the scales that have it."""
        if not isinstance(saying, Saying):
            raise BadSaying("saying")
        return tuple([saying.truth_at(told) for told in self.cuts_by(self.places_of(saying.pairs))])

    def places_of(self, pairs):
        """Where these pairs stand among those of the chart."""
        places = {pair.balance.key: place for place, pair in enumerate(self.pairs)}
        for pair in pairs:
            if pair.balance.key not in places:
                raise NoPair(str(pair))
        return [places[pair.balance.key] for pair in pairs]

    def cuts_by(self, places):
        """For each outcome list the tuple of the outcomes at these places."""
        return [tuple([outcomes[place] for place in places]) for outcomes in self.lists]


class Growth:
    """The outcome lists and the scales that are found while a tree grows."""

    def __init__(self, book, pairs):
        self.things = book.things
        self.columns = [wholes_of(pair.balance, book.things) for pair in pairs]
        self.lists = []
        self.scales = []

    def grown(self, rows, kinds, numbers, outcomes):
        """The tree behind these outcomes. The rows tell them; the numbers are worths that keep the rows."""
        if len(outcomes) == len(self.columns):
            return self.leaf(numbers, outcomes)
        column = self.columns[len(outcomes)]
        worth = dot(column, numbers)
        trees = []
        for outcome in OUTCOMES:
            row, kind = outcome_row(column, outcome)
            more, weights = [*rows, row], None
            found = numbers
            if outcome != (worth > 0) - (worth < 0):
                found, weights = solved(more, [*kinds, kind], len(self.things))
            if found is None:
                trees.append(("barred", tuple(weights)))
            else:
                trees.append(self.grown(more, [*kinds, kind], found, (*outcomes, outcome)))
        return ("branch", *trees)

    def leaf(self, numbers, outcomes):
        """Keep an outcome list and its scale; the tree that tells its number."""
        if len(self.lists) == _MOST_LISTS:
            raise TooMany("lists", _MOST_LISTS)
        self.lists.append(outcomes)
        self.scales.append(Scale(dict(zip(self.things, numbers))))
        return ("list", len(self.lists) - 1)


def charted(book, pairs):
    """A chart of the book for these pairs."""
    some = need_told_pairs(book, pairs)
    need_possible(book)
    if len(some) > _MOST_PAIRS:
        raise TooMany("pairs", _MOST_PAIRS)
    rows, kinds = book_rows(book)
    numbers, _ = solved(rows, kinds, len(book.things))
    growth = Growth(book, some)
    tree = growth.grown(rows, kinds, numbers, ())
    return Chart(some, growth.lists, growth.scales, tree)


def need_told_pairs(book, pairs):
    """The tuple of the pairs; raise what stands against a chart of the book for them."""
    if not isinstance(book, Book):
        raise BadBook("book")
    some = told_pairs(pairs)
    for pair in some:
        need_things(book.things, pair.things)
    return some


def book_rows(book):
    """The balances of the rows as lists of integers, and the kinds of the rows."""
    return [wholes_of(row.balance, book.things) for row in book.rows], [row.kind for row in book.rows]


def outcome_row(column, outcome):
    """The row that just the scales with this outcome of a pair keep, and its kind."""
    if outcome == 0:
        return column, "="
    return [number * outcome for number in column], ">"


def are_outcomes(value, many):
    """Whether any value is a list of so many outcomes."""
    return is_list(value) and len(value) == many and all([is_within(outcome, -1, 1) for outcome in value])
