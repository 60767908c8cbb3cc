"""[10], scaleborn/orders.py and scaleborn/order_sums.py."""

import itertools
import random

from scaleborn.balances import Balance
from scaleborn.books import Book
from scaleborn.comparisons import Comparison
from scaleborn.errors import BadBalance, BadComparison, BadOrder, BadScale, NoThing, TooMany, Twice
from scaleborn.order_sums import class_sums, sure_by_order
from scaleborn.orders import order_at, order_outcomes, order_rows, weak_orders
from scaleborn.ratios import Ratio
from scaleborn.ready_sorts import order_of
from scaleborn.rounds import fit, is_possible
from scaleborn.sayings import of_comparison
from scaleborn.scales import Scale
from scaleborn.verdicts import truth_in
from support import BALANCE, COMPARISON, ODD, SCALE, Case, is_a

SEVEN = [[name] for name in "abcdefg"]
# Values that are no orders, by what is wrong with them.
NO_ORDERS = ([], (), [[]], [["a"], []], [[], ["a"]], ["a"], ["ab"], [["b", "a"]], [["a", "a"]], [["a"], ["c", "b"]], [["A"]],
             [["a", 1]], [["a"], None], [["a"], "b"], [{"a": 1}], [[["a"]]], [["a", "b", "a"]], {"a": 1}, "a", [["a"], ["b", "b"]])


def descending(things):
    """All weak orders of the things, from their outcome lists."""
    found = {}
    for ranks in itertools.product(range(len(things)), repeat=len(things)):
        order = tuple(tuple(thing for thing, own in zip(things, ranks) if own == rank) for rank in sorted(set(ranks)))
        place = dict(zip(things, ranks))
        told = tuple((place[one] < place[other]) - (place[one] > place[other])
                     for at, one in enumerate(things) for other in things[at + 1:])
        found[told] = order
    return [found[told] for told in sorted(found, reverse=True)]


class Orders(Case):
    def test_example(self):
        self.assertEqual(list(weak_orders(["b", "a"])), [(("a",), ("b",)), (("a", "b"),), (("b",), ("a",))])
        order = order_at(Scale({"a": 1, "b": 3, "c": 1}))
        self.assertEqual([order, order_outcomes(order), [str(row) for row in order_rows(order, True)]],
                         [(("b",), ("a", "c")), (-1, 0, 1), ["b > a", "a = c", "a > 0"]])
        self.raises(BadOrder, {"part": "order"}, order_rows, [["a"], ["b", "a"]])

    def test_weak_orders(self):
        for many, count in ((1, 1), (2, 3), (3, 13), (4, 75), (5, 541)):
            for things in (list("abcde"[:many]), ["a", "a0", "b7", "b", "z"][:many]):
                found = list(weak_orders(things=things[::-1]))
                self.assertEqual(len(found), count)
                self.assertEqual(found, descending(sorted(things)))
                told = [order_outcomes(order) for order in found]
                self.assertEqual(told, sorted(told, reverse=True))
        self.assertEqual(len(list(weak_orders(tuple("abcdef")))), 4683)
        self.assertEqual([order for order in weak_orders(["a"])], [(("a",),)])

    def test_order_at(self):
        source = random.Random(121)
        for _ in range(300):
            things = list("abcdef"[:source.randint(0, 6)])
            scale = Scale({thing: Ratio(source.randint(-3, 3), source.choice([1, 2, 3])) for thing in things})
            order = order_at(scale=scale)
            self.assertEqual(sorted(thing for together in order for thing in together), things)
            worths = [[scale.worth(Balance.of(thing)) for thing in together] for together in order]
            for some, more in zip(worths, worths[1:]):
                self.assertTrue(more[0].is_below(some[0]))
            for some, together in zip(worths, order):
                self.assertTrue(all(worth == some[0] for worth in some))
                self.assertEqual(list(together), sorted(together))
            if things:
                self.assertEqual(order_outcomes(order), scale.outcomes(order_of(things)))
        self.assertEqual(order_at(Scale({})), ())
        self.assertEqual(order_at(Scale({"b": Ratio(1, 3), "a": Ratio(1, 2), "c": Ratio(2, 6)})), (("a",), ("b", "c")))
        great = Scale({"a": Ratio(10 ** 30 + 1, 10 ** 30), "b": 1, "c": Ratio(10 ** 30, 10 ** 30 - 1)})
        self.assertEqual(order_at(great), (("c",), ("a",), ("b",)))
        many = Scale({f"a{number}": number % 3 for number in range(20)})
        self.assertEqual([len(together) for together in order_at(many)], [6, 7, 7])
        self.refuses(BadScale, "scale", order_at, [is_a(Scale)])

    def test_order_rows(self):
        for things in ("a", "ab", "abc", "abcd"):
            for order in weak_orders(list(things)):
                self.assertEqual(order_outcomes(order=order),
                                 fit(Book(list(things), order_rows(order))).scale.outcomes(order_of(list(things))))
                told = []
                for at, together in enumerate(order):
                    told.extend([f"{together[0]} = {other}" for other in together[1:]])
                    if at + 1 < len(order):
                        told.append(f"{together[0]} > {order[at + 1][0]}")
                rows = order_rows(order=order)
                self.assertIs(type(rows), tuple)
                self.assertEqual([str(row) for row in rows], told)
                self.assertEqual([str(row) for row in order_rows(order, nothing=True)], [*told, f"{order[-1][0]} > 0"])
                self.assertEqual(order_rows([list(together) for together in order], False), rows)
                scale = fit(Book(list(things), order_rows(order, True))).scale
                self.assertEqual(order_at(scale), order)
                self.assertTrue(all(scale.worth(Balance.of(thing)).sign == 1 for thing in things))

    def test_rows_are_kept_by_those_that_have_the_order(self):
        for worths in itertools.product((-1, 0, 1, 2), repeat=3):
            scale = Scale(dict(zip("abc", worths)))
            for order in weak_orders(list("abc")):
                for nothing in (False, True):
                    book = Book(list("abc"), order_rows(order, nothing))
                    self.assertIs(book.keeps(scale), order_at(scale) == order and (not nothing or min(worths) > 0))

    def test_errors(self):
        self.refuses(BadBalance, "things", lambda value: list(weak_orders(value)), [
            lambda value: isinstance(value, (list, tuple)) and len(value) > 0 and all(one in ("a", "b") for one in value
                                                                                    if isinstance(one, str))
            and all(isinstance(one, str) for one in value) and "A" not in value])
        for value in ([], (), ["a", 1], "ab"):
            self.raises(BadBalance, {"part": "things"}, lambda told: list(weak_orders(told)), value)
        self.raises(Twice, {"name": "b"}, lambda told: list(weak_orders(told)), list("abcdefgba"))
        self.raises(TooMany, {"what": "things", "most": 6}, lambda told: list(weak_orders(told)), list("abcdefg"))
        for function in (order_outcomes, order_rows, lambda order: class_sums(order, None),
                         lambda order: sure_by_order(order, None)):
            self.refuses(BadOrder, "order", function)
            for value in NO_ORDERS:
                self.raises(BadOrder, {"part": "order"}, function, value)
            self.raises(Twice, {"name": "b"}, function, [*SEVEN, ["b", "h"], ["a"]])
            self.raises(Twice, {"name": "a"}, function, [["a"], ["a"]])
            self.raises(TooMany, {"what": "things", "most": 6}, function, SEVEN)
        self.raises(TooMany, {"what": "things", "most": 6}, order_rows, [list("abcdefg")], True)


class Sums(Case):
    def test_example(self):
        line = [("a",), ("b",), ("c",)]
        self.assertEqual([class_sums(line, Balance({"a": 1, "b": -3, "c": 2})), class_sums([["a", "b"], ["c"]], Balance.of("b"))],
                         [(1, -2, 0), (1, 1)])
        self.assertEqual(
            [sure_by_order(line, Comparison.read(text)) for text in ("a + b > 2 c", "2 b > a + c", "a + b > c", "a >= c")],
            [True, False, False, True])
        self.assertEqual(
            [sure_by_order(line, Comparison.read(text), True) for text in ("a + b > c", "2 a > b + 2 c", "c > 0")],
            [True, False, True])

    def test_class_sums(self):
        source = random.Random(122)
        for order in weak_orders(list("abcd")):
            balance = Balance({thing: Ratio(source.randint(-3, 3), source.randint(1, 3)) for thing in "abcd"})
            sums = class_sums(order=order, balance=balance)
            self.assertIs(type(sums), tuple)
            for count, told in enumerate(sums):
                self.assertIs(type(told), Ratio)
                first = [thing for together in order[:count + 1] for thing in together]
                self.assertEqual(told, sum([balance.number_of(thing) for thing in first], Ratio(0)))
            self.assertEqual(len(sums), len(order))
            self.assertEqual(class_sums(order, Balance({})), (0,) * len(order))

    def test_sure_against_verdicts(self):
        source, counts = random.Random(123), {}
        orders = [order for many in (1, 2, 3, 4) for order in weak_orders(list("abcd"[:many]))]
        for order in orders * 3:
            things = sorted(thing for together in order for thing in together)
            for kind in (">", ">=", "="):
                for nothing in (False, True):
                    numbers = {thing: source.choice([0, 1, -1, source.randint(-2, 2)]) for thing in things}
                    if source.random() < 0.5:
                        numbers[source.choice(things)] -= sum(numbers.values())
                    balance = Balance(numbers)
                    if balance.is_nothing:
                        continue
                    comparison = Comparison(balance, kind)
                    book = Book(things, order_rows(order, nothing))
                    told = truth_in(book, of_comparison(comparison)) is True
                    self.assertIs(sure_by_order(order=order, comparison=comparison, nothing=nothing), told)
                    if not nothing:
                        self.assertIs(sure_by_order(order, comparison), told)
                    counts[kind, nothing, told] = counts.get((kind, nothing, told), 0) + 1
        self.assertGreater(min(counts[key] for key in itertools.product((">", ">=", "="), (False, True), (False, True))), 5)
        self.assertTrue(is_possible(Book(["a"], order_rows([["a"]]))))

    def test_errors(self):
        order = [["a"], ["b"]]
        self.refuses(BadBalance, "balance", lambda value: class_sums(order, value), [is_a(Balance)])
        self.refuses(BadComparison, "comparison", lambda value: sure_by_order(order, value), [is_a(Comparison)])
        self.raises(NoThing, {"name": "c"}, class_sums, order, Balance.of("d", "a", "c"))
        self.raises(NoThing, {"name": "c"}, sure_by_order, order, Comparison.read("d > c"))
        self.raises(TooMany, {"what": "things", "most": 6}, class_sums, SEVEN, Balance.of("z"))
        self.raises(TooMany, {"what": "things", "most": 6}, sure_by_order, SEVEN, Comparison.read("z > 0"), True)
        self.raises(BadOrder, {"part": "order"}, class_sums, [], Balance.of("z"))
        for value in ODD[:2]:
            self.raises(BadBalance, {"part": "balance"}, class_sums, order, value)
        self.assertEqual((class_sums(order, BALANCE), sure_by_order(order, COMPARISON), order_at(SCALE)), ((1, 0), True, (("a",), ("b",))))


if __name__ == "__main__":
    import unittest
    unittest.main()
