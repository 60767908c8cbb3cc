"""[10] and scaleborn/heaps.py."""

import itertools
import random

from scaleborn.balances import Balance
from scaleborn.books import Book
from scaleborn.comparisons import Comparison
from scaleborn.errors import BadBalance, BadOrder, NoThing, TooMany, Twice, Unlike
from scaleborn.heaps import Matching, Short, heap_matched, shows_matched
from scaleborn.order_sums import sure_by_order
from scaleborn.orders import order_rows, weak_orders
from scaleborn.papers import Denial, Paper
from scaleborn.ratios import Ratio
from scaleborn.sayings import of_comparison
from scaleborn.verdicts import truth_in
from support import ODD, Case, bent_all_through
from test_orders import NO_ORDERS, SEVEN

FOUR = [("a",), ("b", "c"), ("d",)]


def heaps_in(things):
    return [list(heap) for many in range(1, len(things) + 1) for heap in itertools.combinations(things, many)]


def place(order, thing):
    return [thing in together for together in order].index(True)


def is_matching(order, ones, others, pairs):
    """Whether pairs are a matching as [10] tells it."""
    return (sorted(one for one, _ in pairs) == sorted(ones) and sorted(other for _, other in pairs) == sorted(others)
            and all(place(order, one) <= place(order, other) for one, other in pairs))


def shorts(order, ones, others):
    """The numbers of first classes in which the second heap has more things."""
    found = []
    for number in range(1, len(order) + 1):
        first = [thing for together in order[:number] for thing in together]
        if sum(thing in first for thing in others) > sum(thing in first for thing in ones):
            found.append(number)
    return found


class Heaps(Case):
    def test_example(self):
        self.assertEqual(
            [heap_matched(FOUR, ["a", "d"], ["b", "c"]).parts, heap_matched(FOUR, ["b"], ["c"]).pairs,
             bool(heap_matched(FOUR, ["b", "a"], ["c", "b"]))], [(2,), (("b", "c"),), True])
        self.assertEqual([shows_matched(FOUR, ["a", "b"], ["b", "d"], Matching([["b", "b"], ["a", "d"]])),
                          shows_matched(FOUR, ["b"], ["a"], Short(3))], [True, False])

    def test_papers(self):
        matching, short = Matching(pairs=[["a", "b"]]), Short(number=[2])
        self.assertEqual((matching.word, matching.parts, matching.pairs, bool(matching)),
                         ("matching", ((("a", "b"),),), (("a", "b"),), True))
        self.assertEqual((short.word, short.parts, short.number, bool(short)), ("short", ((2,),), (2,), False))
        self.assertIsInstance(short, Denial)
        self.assertNotIsInstance(matching, Denial)

    def test_all_ways_to_match(self):
        counts = {True: 0, False: 0}
        for order in weak_orders(list("abcd")):
            for ones in heaps_in("abcd"):
                for others in heaps_in("bdca"):
                    if len(ones) != len(others):
                        continue
                    paper = heap_matched(order=order, ones=ones, others=others)
                    can = any(is_matching(order, ones, others, list(zip(ones, told)))
                              for told in itertools.permutations(others))
                    counts[can] += 1
                    self.assertIs(type(paper), Matching if can else Short)
                    if can:
                        self.assertTrue(is_matching(order, ones, others, paper.pairs))
                        self.assertEqual([], shorts(order, ones, others))
                    else:
                        self.assertEqual(paper.number, shorts(order, ones, others)[0])
                    self.assertIs(shows_matched(order, ones, others, paper), True)
                    self.assertEqual(heap_matched([list(one) for one in order], tuple(ones), tuple(others)), paper)
        self.assertGreater(min(counts.values()), 1000)

    def test_facts(self):
        source = random.Random(131)
        orders = list(weak_orders(list("abcd")))
        for _ in range(150):
            order = source.choice(orders)
            many = source.randint(1, 4)
            ones, others = source.sample("abcd", many), source.sample("abcd", many)
            balance = Balance.of(*ones) - Balance.of(*others)
            paper = heap_matched(order, ones, others)
            if balance.is_nothing:
                self.assertTrue(paper)
                continue
            book = Book(list("abcd"), order_rows(order))
            self.assertIs(bool(paper), truth_in(book, of_comparison(Comparison(balance, ">="))) is True)
            if paper:
                above = any(place(order, one) < place(order, other) for one, other in paper.pairs)
                self.assertIs(sure_by_order(order, Comparison(balance, ">")), above)

    def test_shows_bent(self):
        source, shown = random.Random(132), 0
        orders = list(weak_orders(list("abcd")))
        for _ in range(250):
            order = source.choice(orders)
            many = source.randint(1, 3)
            ones, others = source.sample("abcd", many), source.sample("abcd", many)
            can = shorts(order, ones, others)
            for number in (-1, 0, 1, 2, 3, 4, 5, True, Ratio(1), Ratio(2), None, "1", (1,)):
                told = type(number) is int and number in can
                self.assertIs(shows_matched(order, ones, others, Short(number)), told)
            for told in itertools.permutations(others):
                pairs = list(zip(ones, told))
                source.shuffle(pairs)
                self.assertIs(shows_matched(order=order, ones=ones, others=others, value=Matching(pairs)),
                              is_matching(order, ones, others, pairs))
            paper = heap_matched(order, ones, others)
            if not paper:
                continue
            for bend in bent_all_through(paper.pairs, [None, "a", "b", "c", "d", "z", 1, (), ("a",), ("a", "b")]):
                try:
                    told = isinstance(bend, tuple) and all(type(pair) is tuple for pair in bend) and is_matching(
                        order, ones, others, bend)
                except (ValueError, TypeError):
                    told = False
                self.assertIs(shows_matched(order, ones, others, Matching(bend)), told, bend)
                shown += told
            for value in (Paper("matching", paper.pairs), Denial("matching", paper.pairs), Short(paper.pairs)):
                self.assertIs(shows_matched(order, ones, others, value), False)
        self.assertGreater(shown, 20)

    def test_any_values(self):
        for value in ODD:
            for told in (value, Matching(value), Short(value), Matching([value]), Matching([(value, value)])):
                self.assertIs(shows_matched([["a"]], ["a"], ["a"], told), isinstance(told, Matching) and (
                    isinstance(value, str) and value == "a" and type(told.pairs[0]) is tuple))

    def test_errors(self):
        for function in (heap_matched, lambda order, ones, others: shows_matched(order, ones, others, None)):
            self.refuses(BadOrder, "order", lambda value: function(value, None, None))
            for value in NO_ORDERS:
                self.raises(BadOrder, {"part": "order"}, function, value, None, None)
            self.raises(Twice, {"name": "b"}, function, [*SEVEN, ["b", "h"], ["a"]], None, None)
            names = [lambda value: isinstance(value, (list, tuple)) and len(value) > 0 and all(
                type(one) is str and one in "ab" for one in value)]
            self.refuses(BadBalance, "ones", lambda value: function(FOUR, value, None), names)
            self.refuses(BadBalance, "others", lambda value: function(FOUR, ["a"], value), names)
            for value in ([], (), ["A"]):
                self.raises(BadBalance, {"part": "ones"}, function, FOUR, value, [])
                self.raises(BadBalance, {"part": "others"}, function, FOUR, ["a"], value)
            self.raises(Twice, {"name": "z"}, function, FOUR, ["z", "y", "z", "y"], None)
            self.raises(NoThing, {"name": "z"}, function, FOUR, ["a", "z", "y"], None)
            self.raises(Twice, {"name": "a"}, function, FOUR, ["b"], ["z", "a", "a"])
            self.raises(NoThing, {"name": "z"}, function, FOUR, ["b"], ["z", "y", "a"])
            self.raises(Unlike, {"what": "heaps"}, function, FOUR, ["b"], ["b", "a"])
            self.raises(Unlike, {"what": "heaps"}, function, FOUR, ["b", "c"], ["a"])
        self.raises(TooMany, {"what": "things", "most": 6}, heap_matched, SEVEN, None, None)
        # What shows tells by its own words, also for more things.
        self.assertIs(shows_matched(SEVEN, ["a", "g"], ["b", "g"], Matching([["a", "b"], ["g", "g"]])), True)
        self.assertIs(shows_matched(SEVEN, ["b", "g"], ["a", "g"], Short(1)), True)
        self.raises(BadBalance, {"part": "ones"}, shows_matched, SEVEN, None, None, None)


if __name__ == "__main__":
    import unittest
    unittest.main()
