"""Told wordings: sayings about the pairs of a sort alone that are short."""

from scaleborn.books import Book
from scaleborn.charts import OUTCOMES, are_outcomes, charted
from scaleborn.checks import is_list, need_things
from scaleborn.comparisons import Comparison
from scaleborn.errors import BadBook, BadPaper, BadSort
from scaleborn.sayings import both_of, either_of, of_comparison
from scaleborn.sorts import Sort

# For each outcome what may be said instead of it: two outcomes.
_WIDER = {1: ((1, 0), (1, -1)), 0: ((1, 0), (0, -1)), -1: ((0, -1), (1, -1))}


class Words:
    """What can be said of full lists, such that it holds at just those that are wanted."""

    def __init__(self, by, fulls, wanted):
        # A mask has a bit for each full list.
        self.fulls = fulls
        self.everywhere = (1 << len(fulls)) - 1
        asked = {full: True for full in wanted}
        self.wanted = self._where([full in asked for full in fulls])
        self.had = [{outcome: self._where([full[place] == outcome for full in fulls]) for outcome in OUTCOMES}
                    for place in range(len(by))]

    def terms(self):
        """Terms that hold together at just the wanted full lists, none of which can be left out.

        A term is a dict from places of pairs to tuples of outcomes that they may have.
        """
        found = []
        left = self.wanted
        for at, full in enumerate(self.fulls):
            if left >> at & 1 == 1:
                found.append(self._term_at(full))
                left = left & (self.everywhere ^ self._mask_of(found[-1]))
        for term in list(found):
            fewer = [other for other in found if other != term]
            if self._covers(fewer):
                found = fewer
        return found

    def _term_at(self, full):
        """A term that holds at a full list, and that cannot do without any of its places."""
        term = {place: (outcome,) for place, outcome in enumerate(full)}
        for place in range(len(full)):
            fewer = {other: term[other] for other in term if other != place}
            if self._is_right(fewer):
                term = fewer
        for place in list(term):
            for outcomes in _WIDER[full[place]]:
                wider = {**term, place: outcomes}
                if self._is_right(wider):
                    term = wider
                    break
        return term

    def _is_right(self, term):
        """Whether a term holds at wanted full lists alone."""
        return self._mask_of(term) | self.wanted == self.wanted

    def _covers(self, terms):
        """Whether at each wanted full list one of the terms holds."""
        mask = 0
        for term in terms:
            mask = mask | self._mask_of(term)
        return mask == self.wanted

    def _mask_of(self, term):
        """Where a term holds."""
        mask = self.everywhere
        for place, outcomes in term.items():
            mask = mask & sum([self.had[place][outcome] for outcome in outcomes])
        return mask

    def _where(self, truths):
        """The mask of the full lists at which it is so."""
        return sum([1 << at for at, truth in enumerate(truths) if truth])


def wording_of(book, by, fulls):
    """A short told wording by the sort that holds at just these full lists."""
    if not isinstance(book, Book):
        raise BadBook("book")
    if not isinstance(by, Sort):
        raise BadSort("by")
    if not is_list(fulls) or not all([are_outcomes(full, len(by)) for full in fulls]):
        raise BadPaper("fulls")
    need_things(book.things, by.things)
    return short_wording(by, charted(book, by).lists, [tuple(full) for full in fulls])


def short_wording(by, fulls, wanted):
    """A short told wording that holds at just the wanted ones of all full lists."""
    terms = Words(by, fulls, wanted).terms()
    return either_of([both_of([_told(by.pairs[place], outcomes) for place, outcomes in term.items()])
                      for term in terms])


def _told(pair, outcomes):
    """What is said of a pair that has one of these outcomes."""
    if outcomes == (1, -1):
        return ~of_comparison(Comparison(pair.balance, "="))
    if outcomes == (0,):
        return of_comparison(Comparison(pair.balance, "="))
    turned = pair.balance if 1 in outcomes else -pair.balance
    return of_comparison(Comparison(turned, ">=" if 0 in outcomes else ">"))
