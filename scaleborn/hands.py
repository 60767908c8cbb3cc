"""Two hands: books of their own things, which clash or have a scale together."""

from scaleborn.balances import Balance
from scaleborn.books import Book
from scaleborn.checks import need_things
from scaleborn.comparisons import Comparison
from scaleborn.errors import BadBook, BadSaying, Impossible, TooMany
from scaleborn.hulls import need_possible
from scaleborn.papers import Denial, Paper
from scaleborn.rounds import fit_rows
from scaleborn.sayings import Saying
from scaleborn.verdicts import truth_in


class Clash(Paper):
    """What one hand makes sure of, the other one of its contrary, and how often each row is used."""

    def __init__(self, comparison, first, second):
        super().__init__("clash", comparison, first, second)
        self.comparison, self.first, self.second = self.parts


class Together(Denial):
    """A scale of all things at which hands are together."""

    def __init__(self, scale):
        super().__init__("together", scale)
        self.scale = self.parts[0]


def clash(one, other):
    """What two hands clash over, or a scale at which they are together."""
    need_two_books(one, other)
    things = need_fitting(one, other)
    return clash_of(things, one.rows, other.rows)


def settled(one, other, saying):
    """The truths of a saying in the one's book, in the other's and in that of both."""
    need_two_books(one, other)
    if not isinstance(saying, Saying):
        raise BadSaying("saying")
    need_things(things_of([one, other]), saying.things)
    need_fitting(one, other)
    both = one.joined(other)
    paper = clash(one, other)
    if paper:
        raise Impossible(paper)
    return (truth_in(one.with_things(*saying.things), saying),
            truth_in(other.with_things(*saying.things), saying), truth_in(both, saying))


def clash_of(things, mine, its):
    """What rows of one hand and of another one clash over, of these things in all, or a scale that keeps all."""
    paper = fit_rows(things, [*mine, *its])
    if paper:
        return Together(paper.scale)
    first, second = paper.weights[:len(mine)], paper.weights[len(mine):]
    return Clash(comparison_of(mine, first), first, second)


def comparison_of(rows, weights):
    """What rows, so many times, make sure of, None if they add up to nothing."""
    total = row_sum(rows, weights)
    if total.is_nothing:
        return None
    return Comparison(total, ">" if uses_more(rows, weights) else ">=")


def row_sum(rows, weights):
    """What the balances of rows, so many times, add up to."""
    total = Balance({})
    for row, weight in zip(rows, weights):
        total = total + row.balance * weight
    return total


def uses_more(rows, weights):
    """Whether a row > is used."""
    return any([row.kind == ">" and weight != 0 for row, weight in zip(rows, weights)])


def things_of(books):
    """All things of several books, ascending."""
    return tuple(sorted(set([thing for book in books for thing in book.things])))


def need_two_books(one, other):
    """Raise BadBook for what is no book."""
    if not isinstance(one, Book):
        raise BadBook("one")
    if not isinstance(other, Book):
        raise BadBook("other")


def need_fitting(*hands):
    """All things of the hands; raise what stands against laying them together."""
    for hand in hands:
        need_possible(hand)
    return need_few_things(hands)


def need_few_things(hands):
    """All things of the hands; raise TooMany if they are too many."""
    things = things_of(hands)
    if len(things) > Book.MOST_THINGS:
        raise TooMany("things", Book.MOST_THINGS)
    return things
