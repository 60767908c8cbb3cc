"""[7] and scaleborn/check_charts.py."""

import random

from scaleborn.balances import Balance
from scaleborn.books import Book
from scaleborn.charts import Chart, charted
from scaleborn.check_charts import shows_chart
from scaleborn.comparisons import Comparison, Pair
from scaleborn.errors import BadBook, BadPair, NoThing, Twice
from scaleborn.papers import Denial, Paper
from scaleborn.ratios import Ratio
from scaleborn.ready_sorts import gaps_of, heaps_of, order_of
from scaleborn.rounds import Fits
from scaleborn.scales import Scale
from scaleborn.sorts import Sort
from support import BOOK, CHART, ODD, PAIR, SCALE, Case, bent_all_through, is_a
from test_charts import IMPOSSIBLE, cases, is_tree
from test_rounds import random_book


def is_right(book, pairs, value):
    """Whether a value is a right chart, reckoned anew."""
    if type(value) is not Chart or any(type(part) is not tuple for part in value.parts):
        return False
    told, lists, scales, tree = value.parts
    if [str(pair) if type(pair) is Pair else None for pair in told] != [str(pair) for pair in pairs]:
        return False
    for outcomes in lists:
        if type(outcomes) is not tuple or len(outcomes) != len(pairs) or any(type(one) is not int for one in outcomes):
            return False
    if not lists or list(lists) != sorted(set(lists), reverse=True) or len(scales) != len(lists):
        return False
    for outcomes, scale in zip(lists, scales):
        if type(scale) is not Scale or scale.things != book.things or not book.keeps(scale):
            return False
        if tuple(scale.worth(pair.balance).sign for pair in pairs) != outcomes:
            return False
    return is_tree(book, tuple(pairs), lists, tree)


class ShowsChart(Case):
    def test_example(self):
        two, one, twice = Book(["a", "b"]).above_nothing(), Pair.read("a : b"), Pair.read("a : 2 b")
        more = Book.read("a b | a > b")
        own = Chart([one], [(1,)], [Scale({"a": 1, "b": 0})],
                    ("branch", ("list", 0), ("barred", (1, -1)), ("barred", (1, 1))))
        self.assertEqual([shows_chart(more, [one], own), shows_chart(Book(["a", "b"]), [one], own),
                          shows_chart(two, [one, twice], charted(two, [one, twice]))], [True, False, True])

    def bend(self, book, pairs, parts):
        """Each part bent at each place is shown just where it is right."""
        shown = 0
        for at, part in enumerate(parts):
            others = [None, True, 0, 1, -1, 2, Ratio(1), "list", "barred", (), SCALE * 2, PAIR]
            for bend in bent_all_through(part, others):
                value = Chart(*parts[:at], bend, *parts[at + 1:])
                told = is_right(book, pairs, value)
                self.assertIs(shows_chart(book, pairs, value), told, (str(book), bend))
                shown += told
        return shown

    def test_bent_charts(self):
        shown = 0
        for book, pairs in cases(30, 81, rows=3, pairs=3):
            chart = charted(book, pairs)
            self.assertIs(shows_chart(book, pairs, chart), True)
            if len(chart) < 8:
                shown += self.bend(book, pairs, chart.parts)
        self.assertGreater(shown, 0)

    def test_weights(self):
        source = random.Random(82)
        counts = {True: 0, False: 0}
        for book, pairs in cases(200, 83, rows=4, pairs=2):
            chart = charted(book, pairs)
            for path in paths(chart.tree):
                for _ in range(3):
                    weights = changed(source, path[-1][1])
                    value = Chart(pairs, chart.lists, chart.scales, put(chart.tree, path[:-1], ("barred", weights)))
                    told = is_right(book, pairs, value)
                    self.assertIs(shows_chart(book, pairs, value), told)
                    counts[told] += 1
        self.assertGreater(min(counts.values()), 50)

    def test_lists_for_tuples(self):
        for book, pairs in cases(20, 84):
            chart = charted(book, pairs)
            value = Chart(list(pairs), [list(told) for told in chart.lists], list(chart.scales), as_lists(chart.tree))
            self.assertEqual(value, chart)
            self.assertIs(shows_chart(book=book, pairs=tuple(pairs), value=value), True)
            self.assertIs(shows_chart(book, Sort(pairs), value), True)

    def test_other_scales(self):
        for book, pairs in cases(60, 85):
            chart = charted(book, pairs)
            scales = [scale * Ratio(2, 3) for scale in chart.scales]
            self.assertIs(shows_chart(book, pairs, Chart(pairs, chart.lists, scales, chart.tree)), True)
            wider = [Scale({"z": 0, **{thing: scale.worth(Balance.of(thing)) for thing in scale.things}}) for scale in scales]
            self.assertIs(shows_chart(book, pairs, Chart(pairs, chart.lists, wider, chart.tree)), False)
            self.assertIs(shows_chart(book, pairs, Chart(pairs, chart.lists, scales[:-1], chart.tree)), False)
            self.assertIs(shows_chart(book, pairs, Chart(pairs, chart.lists, [*scales, scales[0]], chart.tree)), False)
            if len(scales) > 1:
                for value in (Chart(pairs, chart.lists, scales[::-1], chart.tree),
                              Chart(pairs, chart.lists[::-1], scales[::-1], chart.tree),
                              Chart(pairs, chart.lists[1:], scales[1:], chart.tree),
                              Chart(pairs[::-1], chart.lists, scales, chart.tree)):
                    self.assertIs(shows_chart(book, pairs, value), is_right(book, pairs, value))

    def test_other_books_and_pairs(self):
        for book, pairs in cases(60, 86, pairs=3):
            chart = charted(book, pairs)
            books = [book.with_rows(Comparison(Balance.of("a"), ">")), book.with_things("a", "b", "c", "d"),
                     book.above_nothing(), *[book.without(number) for number in range(len(book))]]
            for other in books:
                self.assertIs(shows_chart(other, pairs, chart), is_right(other, pairs, chart))
            for other in (pairs[1:], pairs[::-1], [*pairs, Pair.read("a : 3 b")]):
                if "b" in book.things:
                    self.assertIs(shows_chart(book, other, chart), is_right(book, other, chart))

    def test_lists_in_other_orders(self):
        rim = Book.read("a b | a >= b")
        scales = [SCALE, Scale({"a": 1, "b": 1})]
        barred = ("barred", (1, 1))
        for lists, order, tree, told in (
                ([(1,), (0,)], (0, 1), ("branch", ("list", 0), ("list", 1), barred), True),
                ([(0,), (1,)], (1, 0), ("branch", ("list", 1), ("list", 0), barred), False),
                ([(1,), (0,)], (0, 1), ("branch", ("list", 1), ("list", 0), barred), False),
                ([(1,), (0,), (0,)], (0, 1, 1), ("branch", ("list", 0), ("list", 1), barred), False),
                ([(1,), (0,), (0,)], (0, 1, 1), ("branch", ("list", 0), ("list", 2), barred), False),
                ([(1,), (1,), (0,)], (0, 0, 1), ("branch", ("list", 0), ("list", 2), barred), False)):
            value = Chart([PAIR], lists, [scales[at] for at in order], tree)
            self.assertIs(shows_chart(rim, [PAIR], value), told)

    def test_impossible_books(self):
        for value in (CHART, Chart([PAIR], [], [], ("barred", (1, 1))), Chart([], [()], [SCALE], ("list", 0)),
                      Chart([], [], [], ("barred", (1, 1)))):
            self.assertIs(shows_chart(IMPOSSIBLE, value.pairs, value), False)

    def test_whole_tree_barred(self):
        for tree in (("barred", (1,)), ("barred", ()), ("list", 1), ("list", -1), ("list", True), ("list", False), ("list",),
                     ("list", 0, 0), "list", [], ["lists", 0], ("branch", ("list", 0), ("list", 0), ("list", 0))):
            self.assertIs(shows_chart(BOOK, [], Chart([], [()], [SCALE], tree)), False)
        self.assertIs(shows_chart(BOOK, [], Chart([], [()], [SCALE], ("list", 0))), True)
        barred = Chart([PAIR], [(1,)], [SCALE], ("branch", ("list", 0), ("barred", (1, -1)),
                                                 ("branch", ("barred", (1, 1)), ("barred", (1, 1)), ("barred", (1, 1)))))
        self.assertIs(shows_chart(BOOK, [PAIR], barred), False)
        two = [PAIR, Pair.read("a : 2 b")]
        book = Book.read("a b | a > b , b > 0")
        chart = charted(book, two)
        empty = ("branch", ("barred", (1, 0, 1, 1)), ("barred", (1, 0, 1, 0)), ("barred", (1, 0, 1, 0)))
        self.assertIs(shows_chart(book, two, Chart(*chart.parts[:3], (*chart.tree[:3], ("barred", (1, 0, 1))))), True)
        self.assertIs(shows_chart(book, two, Chart(*chart.parts[:3], (*chart.tree[:3], empty))), False)

    def test_many_pairs_and_lists(self):
        book = Book.read("a b | a > 50 b , b > 0")
        pairs = [Pair.read(f"a : {count} b") for count in range(2, 24)]
        tree = ("list", 0)
        for at in reversed(range(22)):
            ahead, left = [0] * at, 48 - at
            # a - 50 b, so many b, and the pair turned add up to nothing.
            tree = ("branch", tree, ("barred", [1, left, *ahead, -1]), ("barred", [1, left, *ahead, 1]))
        value = Chart(pairs, [(1,) * 22], [Scale({"a": 60, "b": 1})], tree)
        self.assertIs(shows_chart(book, pairs, value), True)
        self.assertIs(shows_chart(book, pairs, Chart(pairs, [(1,) * 22], [Scale({"a": 50, "b": 1})], tree)), False)
        self.assertIs(shows_chart(book, pairs[:21], value), False)
        abc, heaps = Book(["a", "b", "c"]), heaps_of(["a", "b", "c"]).pairs
        first = heaps.index(PAIR)
        told = [PAIR, *heaps[:first], *heaps[first + 1:]]
        charts = [charted(abc.with_rows(PAIR.as_rows(outcome)), told) for outcome in (1, 0, -1)]
        lists = [one for chart in charts for one in chart.lists]
        scales = [one for chart in charts for one in chart.scales]
        trees, start = [], 0
        for at, chart in enumerate(charts):
            trees.append(without_row(chart.tree[at + 1], start))
            start += len(chart)
        whole = Chart(told, lists, scales, ("branch", *trees))
        self.assertEqual(len(whole), 291)
        self.assertIs(shows_chart(abc, told, whole), True)
        self.assertIs(shows_chart(abc, told, Chart(told, lists[:-1], scales[:-1], whole.tree)), False)

    def test_any_values(self):
        for value in ODD:
            for book in (BOOK, IMPOSSIBLE, Book(["a", "b"])):
                self.assertIs(shows_chart(book, [PAIR], value), value is CHART and book is BOOK)
                for at in range(4):
                    parts = list(CHART.parts)
                    parts[at] = value
                    told = at == 0 and type(value) is list and len(value) == 1 and value[0] is PAIR
                    self.assertIs(shows_chart(book, [PAIR], Chart(*parts)), told and book is BOOK)
                self.assertIs(shows_chart(book, [], Chart([], value, value, value)), False)
        for value in (Paper("chart", *CHART.parts), Denial("chart", *CHART.parts), Fits(SCALE)):
            self.assertIs(shows_chart(BOOK, [PAIR], value), False)

    def test_ready_sorts(self):
        abc = ["a", "b", "c"]
        for book, pairs in ((Book(abc), gaps_of(abc)), (Book(abc).above_nothing(), heaps_of(abc)), (Book(abc), order_of(abc))):
            chart = charted(book, pairs)
            self.assertIs(shows_chart(book, pairs, chart), True)
            self.assertIs(shows_chart(book, pairs.pairs[::-1], chart), False)

    def test_great_books(self):
        source = random.Random(87)
        for _ in range(5):
            book = random_book(source, list("abcdef"), 16, 99)
            self.assertIs(shows_chart(book, [PAIR], CHART), False)

    def test_errors(self):
        self.refuses(BadBook, "book", lambda value: shows_chart(value, None, None), [is_a(Book)])
        self.refuses(BadPair, "pairs", lambda value: shows_chart(IMPOSSIBLE, value, CHART), [
            is_a(Sort), lambda value: isinstance(value, (list, tuple)) and all(type(one) is Pair for one in value)])
        self.raises(Twice, {"name": "a : b"}, shows_chart, IMPOSSIBLE, [Pair.read("z : 0"), PAIR, PAIR], None)
        self.raises(NoThing, {"name": "c"}, shows_chart, IMPOSSIBLE, [PAIR, Pair.read("c : z")], None)


def paths(tree, ahead=()):
    """The ways down to the barred trees: numbers of branches, and the barred tree."""
    if tree[0] == "barred":
        yield (*ahead, tree)
    if tree[0] == "branch":
        for at in (1, 2, 3):
            yield from paths(tree[at], (*ahead, at))


def put(tree, way, other):
    """The tree with another one at the end of this way."""
    if not way:
        return other
    return (*tree[:way[0]], put(tree[way[0]], way[1:], other), *tree[way[0] + 1:])


def changed(source, weights):
    """The weights times 3, or with one of them other than it was."""
    found = [weight * source.choice([1, 3, 3]) for weight in weights]
    if source.random() < 0.6:
        found[source.randrange(len(found))] += source.choice([-1, 1])
    return tuple(found)


def as_lists(tree):
    return [as_lists(part) if isinstance(part, tuple) else part for part in tree]


def without_row(tree, start):
    """The tree behind the outcome of the first pair, its row having been that of the book; later numbers of lists."""
    if tree[0] == "list":
        return ("list", tree[1] + start)
    if tree[0] == "barred":
        return ("barred", (tree[1][0] + tree[1][1], *tree[1][2:]))
    return ("branch", *[without_row(further, start) for further in tree[1:]])


if __name__ == "__main__":
    import unittest
    unittest.main()
