"""[2]: what holds for all modules: names of arguments, lists and tuples, what is returned, equal answers."""

import inspect
import unittest

from scaleborn import (
    asks, balances, between, books, carried, chains, charts, check_asks, check_between, check_charts, check_facets,
    check_rounds, check_said, check_spans, check_verdicts, check_wordings, checks, coarsest, comparisons, desk, errors,
    facets, finer, fractions, hands, heaps, hulls, live, mends, order_sums, orders, papers, pins, ratios, ready_sayings,
    ready_sorts, rounds, said, sayings, scales, sorts, spans, struck, told_wordings, verdicts, whole, wordings)
from scaleborn.balances import Balance
from scaleborn.books import Book
from scaleborn.comparisons import Comparison, Pair
from scaleborn.hulls import alikes, open_scales
from scaleborn.ratios import Ratio
from scaleborn.rounds import Round, fit
from scaleborn.sayings import Saying
from scaleborn.scales import Scale
from scaleborn.sorts import Sort
from support import BOOK, COMPARISON, PAIR, SAYING, SCALE, SORT

# The names of the arguments of functions and classes, as the interface tells them.
ARGUMENTS = {
    checks: {"is_integer": "value", "is_within": "value least most", "is_name": "value", "are_names": "value"},
    ratios: {"Ratio": "top bottom=", "is_ratio": "value", "added": "*ratios", "Ratio.read": "text", "Ratio.of": "value",
             "Ratio.compared": "self other", "Ratio.is_below": "self other", "Ratio.over": "self other"},
    papers: {"fixed": "value", "Paper": "word *parts", "Denial": "word *parts"},
    balances: {"Balance": "numbers", "Balance.of": "*things", "Balance.read": "text", "Balance.number_of": "self thing",
               "Balance.gains": "self", "Balance.losses": "self", "Balance.least": "self", "Balance.renamed": "self names",
               "mean_of": "things"},
    comparisons: {"Comparison": "balance kind", "Comparison.read": "text", "Comparison.contraries": "self",
                  "Pair": "balance", "Pair.read": "text", "Pair.as_rows": "self outcome", "compared": "one kind other"},
    sorts: {"Sort": "pairs", "Sort.read": "text", "Sort.only": "self numbers"},
    ready_sorts: {"order_of": "things nothing=", "gaps_of": "things", "heaps_of": "things", "copies_of": "one other most",
                  "cells_of": "ones others"},
    scales: {"Scale": "numbers", "Scale.read": "text", "Scale.worth": "self balance", "Scale.outcome": "self pair",
             "Scale.keeps": "self comparison", "Scale.outcomes": "self pairs", "Scale.only": "self things"},
    books: {"Book": "things rows=", "Book.read": "text", "Book.keeps": "self scale", "Book.with_rows": "self *rows",
            "Book.without": "self *numbers", "Book.joined": "self other", "Book.with_things": "self *things",
            "Book.above_nothing": "self", "Book.renamed": "self names"},
    rounds: {"Fits": "scale", "Round": "weights", "fit": "book", "is_possible": "book"},
    hulls: {"alikes": "book", "swept": "book balance", "is_held_alike": "book balance", "are_one": "book one other",
            "Opened": "more less", "Shut": "outcome weights", "open_scales": "book pair", "is_open": "book pair"},
    check_rounds: {"shows_fit": "book value", "shows_open": "book pair value"},
    sayings: {"Saying": "parts", "Saying.read": "text", "Saying.holds": "self scale", "Saying.truth_by": "self outcomes",
              "Saying.renamed": "self names", "yes": "", "no": "", "of_comparison": "comparison", "both_of": "sayings",
              "either_of": "sayings", "at_least": "number sayings", "exactly": "number sayings"},
    ready_sayings: {"says_more": "one kind other", "means": "ones kind others", "middle_is": "things kind other",
                    "greatest_is": "thing things", "sole_greatest": "thing things", "rank_is": "thing things rank",
                    "lies_between": "thing one other", "more_even": "one other third fourth",
                    "is_times": "one ratio other kind="},
    charts: {"Chart": "pairs lists scales tree", "Chart.number_of": "self outcomes", "Chart.has": "self outcomes",
             "Chart.scale_at": "self number", "Chart.list_of": "self scale", "Chart.outcomes_of": "self pair",
             "Chart.cut": "self pairs", "Chart.agreeing": "self pairs", "Chart.truths": "self saying",
             "charted": "book pairs"},
    check_charts: {"shows_chart": "book pairs value"},
    verdicts: {"Always": "chart", "Never": "chart", "Hangs": "kept broken", "judged": "book saying",
               "judged_by": "chart saying", "truth_in": "book saying", "follows": "book one other",
               "are_same": "book one other", "needed_rows": "book saying"},
    struck: {"worked_out": "saying", "put_to": "saying number truth", "struck": "book saying"},
    check_verdicts: {"shows_judged": "book saying value", "shows_follows": "book one other value"},
    orders: {"weak_orders": "things", "order_at": "scale", "order_outcomes": "order", "order_rows": "order nothing="},
    order_sums: {"class_sums": "order balance", "sure_by_order": "order comparison nothing="},
    heaps: {"Matching": "pairs", "Short": "number", "heap_matched": "order ones others",
            "shows_matched": "order ones others value"},
    fractions: {"fractions_to": "most", "neighbours_of": "ratio most", "place_at": "scale one other most",
                "places_in": "book one other most"},
    wordings: {"Wordings": "outer inner chart", "wordings": "book saying by", "wordings_in": "chart saying by"},
    carried: {"Carried": "wording chart", "Divided": "one other", "carried_by": "book saying by"},
    told_wordings: {"wording_of": "book by fulls"},
    check_wordings: {"shows_wordings": "book saying by value", "shows_carried": "book saying by value"},
    facets: {"Facet": "pair more alike less chart", "live_pairs": "book saying", "facets": "book saying"},
    whole: {"Whole": "chart", "Ragged": "at beside chart", "whole_in": "book saying"},
    coarsest: {"Coarsest": "facets carried", "TwoLeast": "one other first second chart", "least_sort": "book saying by",
               "coarsest": "book saying"},
    check_facets: {"shows_facet": "book saying value", "shows_whole": "book saying value", "shows_coarsest": "book saying value"},
    said: {"SaidBy": "truths chart", "Fewest": "numbers chart parted", "said_by": "book told saying",
           "said_saying": "book told saying", "fewest_said": "book told saying"},
    finer: {"Finer": "chart", "Coarser": "pair one other", "finer_than": "book one other", "sorts_word": "book one other"},
    check_said: {"shows_said": "book told saying value", "shows_fewest": "book told saying value",
                 "shows_finer": "book one other value"},
    hands: {"Clash": "comparison first second", "Together": "scale", "clash": "one other", "settled": "one other saying"},
    between: {"Between": "saying mine its clashes", "between": "one saying other wanted"},
    chains: {"Chain": "links weights", "chain_of": "hands", "clashing_hands": "hands"},
    check_between: {"shows_clash": "one other value", "shows_chain": "hands value",
                    "shows_between": "one saying other wanted value"},
    spans: {"Span": "lowest highest low high", "span": "book one other", "ratio_at": "scale one other"},
    pins: {"pinned": "book one other most", "simplest_between": "low high", "copies_to_part": "one other"},
    check_spans: {"shows_span": "book one other value"},
    asks: {"Asking": "number tree fewer chart", "asked": "book saying by", "settled_at": "tree outcomes"},
    mends: {"Mended": "taken scale rounds", "mended": "book"},
    check_asks: {"shows_asked": "book saying by value", "shows_mended": "book value"},
    live: {"Live": "book", "Live.tell": "self row", "Live.take": "self number", "Live.back": "self", "Live.again": "self",
           "Live.watch": "self name saying", "Live.unwatch": "self name", "Live.saying_of": "self name", "Live.twin": "self"},
    desk: {"Desk": "lines=", "Desk.tell": "self line", "Desk.run": "self lines", "Desk.back": "self",
           "Desk.told_lines": "self", "Desk.kept_names": "self", "Desk.value_of": "self name"}}


def written(parameter):
    star = "*" if parameter.kind is inspect.Parameter.VAR_POSITIONAL else ""
    return star + parameter.name + ("" if parameter.default is inspect.Parameter.empty else "=")


class General(unittest.TestCase):
    def test_names_of_arguments(self):
        for module, told in ARGUMENTS.items():
            for name, arguments in told.items():
                found = module
                for word in name.split("."):
                    found = getattr(found, word)
                names = [written(parameter) for parameter in inspect.signature(found).parameters.values()]
                self.assertEqual(" ".join(names), arguments, name)

    def test_static_and_class_methods(self):
        for made in (Ratio, Balance):
            self.assertIsInstance(inspect.getattr_static(made, "of"), staticmethod)
        for made in (Ratio, Balance, Comparison, Pair, Sort, Scale, Book, Saying):
            self.assertIsInstance(inspect.getattr_static(made, "read"), classmethod)

    def test_tuples_are_returned(self):
        rim = Book.read("a b | a >= b , b >= a")
        for value in (
                Balance.of("a").things, COMPARISON.things, COMPARISON.contraries(), PAIR.things, SORT.pairs, SORT.things,
                SCALE.things, SCALE.outcomes([PAIR]), BOOK.things, BOOK.rows, SAYING.parts, SAYING.comparisons, SAYING.pairs,
                SAYING.things, alikes(rim), alikes(BOOK), fit(Book.read("a | a > 0 , 0 > a")).weights, Round([1]).parts,
                open_scales(rim, PAIR).weights):
            self.assertIs(type(value), tuple)

    def test_lists_and_tuples_for_one_another(self):
        self.assertEqual(Book(("a", "b"), (COMPARISON,)), BOOK)
        self.assertEqual(Sort((PAIR,)), SORT)
        self.assertEqual(Saying((["holds", COMPARISON],)), SAYING)
        self.assertEqual(SCALE.outcomes((PAIR,)), SCALE.outcomes([PAIR]))
        self.assertEqual(Round([1, 2]), Round((1, 2)))
        self.assertEqual(sayings.both_of((SAYING, SAYING)), sayings.both_of([SAYING, SAYING]))
        self.assertEqual(ready_sorts.order_of(("a", "b")), ready_sorts.order_of(["a", "b"]))

    def test_equal_arguments_equal_answers(self):
        for text in ("a b c | a > b , b >= c", "a b | a > b , b > a , a = 0", "a b c d | a + b > c + d , c > a , d >= b"):
            first, second = [Book.read(text) for _ in range(2)]
            self.assertEqual(fit(first), fit(Book(list(second.things)[::-1], list(second.rows))))
        self.assertEqual(open_scales(BOOK, PAIR), open_scales(Book.read(str(BOOK)), Pair.read("a : b")))

    def test_values_are_equal_to_none_of_another_class(self):
        values = [Ratio(1, 2), Balance.of("a"), COMPARISON, PAIR, SORT, SCALE, BOOK, SAYING, Round([1])]
        for at, one in enumerate(values):
            for other_at, other in enumerate(values):
                self.assertIs(one == other, at == other_at)
                self.assertIs(one != other, at != other_at)

    def test_a_call_that_raises_changes_nothing(self):
        texts = [str(value) for value in (COMPARISON, PAIR, SORT, SCALE, BOOK, SAYING)]
        for call in (lambda: SORT + None, lambda: SORT.only([5]), lambda: SCALE * None, lambda: BOOK.with_rows(None),
                     lambda: BOOK.without(9), lambda: BOOK.with_things("c", "d", "e", "f", "g"), lambda: SAYING & None,
                     lambda: SAYING.renamed(None), lambda: SCALE.only(["z"])):
            self.assertRaises(errors.ScaleError, call)
        self.assertEqual([str(value) for value in (COMPARISON, PAIR, SORT, SCALE, BOOK, SAYING)], texts)


if __name__ == "__main__":
    unittest.main()
