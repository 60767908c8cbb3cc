"""[16] and shows_asked of scaleborn/check_asks.py; of shows_mended see test_mends."""

import itertools

from scaleborn.asks import Asking, asked
from scaleborn.books import Book
from scaleborn.carried import Carried, Divided, carried_by
from scaleborn.charts import Chart, charted
from scaleborn.check_asks import shows_asked
from scaleborn.check_charts import shows_chart
from scaleborn.comparisons import Pair
from scaleborn.errors import TooMany
from scaleborn.ready_sayings import greatest_is
from scaleborn.ready_sorts import copies_of, order_of
from scaleborn.sayings import Saying, yes
from scaleborn.scales import Scale
from scaleborn.sorts import Sort
from support import BOOK, ODD, SAYING, SORT, Case, bent_charts, bent_papers, is_of
from test_asks import BY_ORDER, FREE, TOP, some_asked, told_pairs
from test_charts import IMPOSSIBLE

TREE = (0, (1, True, True, False), (1, True, True, False), False)
STALL = ((0, 1, (0, 4)), (1, 1, (0, 8)), (2, 1, (0, 8)))


def length_of(tree, fulls, truths, left):
    """The length of a tree that leads these full lists to their truths, None if it does not."""
    if not left:
        return 0 if tree is None else None
    if tree is True or tree is False:
        return 0 if all(truths[full] is tree for full in left) else None
    if type(tree) is not tuple or len(tree) != 4 or type(tree[0]) is not int or not 0 <= tree[0] < len(left[0]):
        return None
    lengths = [length_of(further, fulls, truths, [full for full in left if full[tree[0]] == outcome])
               for further, outcome in zip(tree[1:], (1, 0, -1))]
    return None if None in lengths else max(lengths) + 1


def is_stall(value, length, told, many, lists, truths):
    """Whether a value is a stall of this length behind these outcomes."""
    if type(value) is not tuple:
        return False
    if length == 0:
        if len(value) != 2 or not all(type(at) is int and 0 <= at < len(lists) for at in value):
            return False
        if not all(lists[at][number] == outcome for at in value for number, outcome in told.items()):
            return False
        return truths[value[0]] and not truths[value[1]]
    waiting = [number for number in range(many) if number not in told]
    if not waiting or len(value) != len(waiting):
        return False
    for number, triple in zip(waiting, value):
        if type(triple) is not tuple or len(triple) != 3 or type(triple[0]) is not int or triple[0] != number:
            return False
        if type(triple[1]) is not int or triple[1] not in (1, 0, -1):
            return False
        if not is_stall(triple[2], length - 1, {**told, number: triple[1]}, many, lists, truths):
            return False
    return True


def is_asked(book, saying, by, value):
    """Whether a value is a right Asking or Divided."""
    if type(value) is Divided:
        return (is_of(book, value.one) and is_of(book, value.other) and value.one.outcomes(by) == value.other.outcomes(by)
                and saying.holds(value.one) and not saying.holds(value.other))
    if type(value) is not Asking or not shows_chart(book, told_pairs(saying, by), value.chart):
        return False
    lists, held = [told[:len(by)] for told in value.chart.lists], value.chart.truths(saying)
    truths = dict(zip(lists, held))
    if any(truths[told] != truth for told, truth in zip(lists, held)):
        return False
    if type(value.number) is not int or length_of(value.tree, lists, truths, list(truths)) != value.number:
        return False
    if value.number == 0:
        return value.fewer is None
    return is_stall(value.fewer, value.number - 1, {}, len(by), lists, held)


class CheckAsks(Case):
    def check(self, book, saying, by, values):
        """All values are told as they are; how many are right."""
        right = 0
        for value in values:
            found = shows_asked(book=book, saying=saying, by=by, value=value)
            self.assertIs(found, bool(is_asked(book, saying, by, value)))
            right += found
        return right

    def test_example(self):
        plan = asked(FREE, TOP, BY_ORDER)
        self.assertEqual([shows_asked(FREE, TOP, BY_ORDER, Asking(2, TREE, STALL, plan.chart)),
                          shows_asked(FREE, TOP, BY_ORDER, Asking(3, TREE, STALL, plan.chart)),
                          shows_asked(FREE, TOP, BY_ORDER, Asking(2, TREE, STALL[:2], plan.chart))], [True, False, False])

    def test_bent(self):
        counts, right = {}, 0
        for book, saying, by in some_asked(250, 441, pairs=3):
            paper = asked(book, saying, by)
            key = paper.number if paper else None
            counts[key] = counts.get(key, 0) + 1
            if counts[key] > 5:
                continue
            right += self.check(book, saying, by, bent_papers(paper, ODD[::2]))
            if paper:
                self.check(book, saying, by, [Asking(*paper.parts[:3], chart) for chart in bent_charts(book, paper.chart)
                                              if len(paper.chart.pairs) > 0])
                self.check(book, ~saying, by, [paper])
                self.check(book, saying, Sort(by.pairs[::-1]), [paper])
                self.check(book, saying, by, [Carried(saying, paper.chart)])
            else:
                self.check(book, saying, by, [Divided(paper.other, paper.one), Divided(paper.one, paper.one)])
        self.assertGreater(len(counts), 3)
        self.assertGreater(right, 10)

    def test_trees(self):
        chart = charted(FREE, BY_ORDER)
        ask_b = (1, True, True, False)
        wide = (0, (0, ask_b, None, None), ask_b, False)
        for tree, length in ((TREE, 2), (wide, 3), ((0, ask_b, ask_b, (0, None, None, False)), 2),
                             ((0, ask_b, ask_b, (1, False, False, False)), 2), ((2, TREE, TREE, TREE), 3),
                             ((1, (0, True, True, False), (0, True, True, False), False), 2)):
            for number in range(5):
                stall = STALL if number == 2 else deep_stall(number)
                found = shows_asked(FREE, TOP, BY_ORDER, Asking(number, tree, stall, chart))
                self.assertIs(found, number == 2 and length == 2, (tree, number))
            self.check(FREE, TOP, BY_ORDER, [Asking(number, tree, STALL, chart) for number in range(5)])
        for tree in ((0, ask_b, ask_b, None), (0, ask_b, ask_b, True), (0, (0, ask_b, False, None), ask_b, False), None, True, False,
                     (0, ask_b, ask_b), (0, ask_b, ask_b, False, False), (3, ask_b, ask_b, False), (-1, ask_b, ask_b, False),
                     (False, ask_b, ask_b, False), (0, (True, True, True, False), ask_b, False), (0, (1, 1, 1, 0), ask_b, False)):
            self.assertIs(shows_asked(FREE, TOP, BY_ORDER, Asking(2, tree, STALL, chart)), False, tree)

    def test_stalls(self):
        chart = charted(FREE, BY_ORDER)
        pairs = list(itertools.product(range(-1, 14), repeat=2))
        shown = [two for two in pairs if shows_asked(FREE, TOP, BY_ORDER, Asking(2, TREE, ((0, 1, two), *STALL[1:]), chart))]
        held = chart.truths(TOP)
        self.assertEqual(shown, [(one, other) for one in range(13) for other in range(13) if held[one] and not held[other]
                                 and chart.lists[one][0] == chart.lists[other][0] == 1])
        for stall in (STALL[::-1], (*STALL, STALL[2]), (STALL[0], STALL[0], STALL[2]), ((0, True, (0, 4)), *STALL[1:]), (),
                      ((False, 1, (0, 4)), *STALL[1:]), ((0, 1, (4, 0)), *STALL[1:]), ((0, 1, (False, 4)), *STALL[1:]),
                      ((0, 1, (0, 4), None), *STALL[1:]), ((0, 2, (0, 4)), *STALL[1:]), ((0, 0, (0, 4)), *STALL[1:]), None, (0, 8),
                      deep_stall(3)):
            self.assertIs(shows_asked(FREE, TOP, BY_ORDER, Asking(2, TREE, stall, chart)), False, stall)
        lists = [[list(triple[:2]) + [list(triple[2])] for triple in STALL]]
        self.assertIs(shows_asked(FREE, TOP, BY_ORDER, Asking(2, list(TREE), lists[0], chart)), True)

    def test_number_0(self):
        chart = charted(BOOK, SORT)
        for fewer, right in ((None, True), ((), False), (0, False), ((0, 0), False), (False, False)):
            self.assertIs(shows_asked(BOOK, SAYING, SORT, Asking(0, True, fewer, chart)), right)
        self.assertIs(shows_asked(BOOK, ~SAYING, SORT, Asking(0, False, None, chart)), True)
        self.assertIs(shows_asked(BOOK, SAYING, SORT, Asking(0, False, None, chart)), False)
        for number in (False, -1, None, "0"):
            self.assertIs(shows_asked(BOOK, SAYING, SORT, Asking(number, True, None, chart)), False)
        # What is settled can be asked for all the same, but then it is no shortest tree.
        self.assertIs(shows_asked(BOOK, SAYING, SORT, Asking(1, (0, True, None, None), (0, 0), chart)), False)

    def test_a_stall_is_not_empty(self):
        two = Book(["a", "b"])
        chart, leaves = charted(two, SORT), [(0, True, None, None), (0, None, False, None), (0, None, None, False)]
        twice = (0, *leaves)
        thrice = (0, (0, leaves[0], None, None), *leaves[1:])
        self.assertIs(shows_asked(two, SAYING, SORT, Asking(1, (0, True, False, False), (0, 1), chart)), True)
        for number, tree in ((2, twice), (3, thrice)):
            for stall in (((0, 1, ()),), (), ((0, 1, (0, 1)),), ((0, 1, ((0, 1, (0, 1)),)),), ((0, 1, ((0, 0, (0, 1)),)),)):
                self.assertIs(shows_asked(two, SAYING, SORT, Asking(number, tree, stall, chart)), False)

    def test_pairs_of_the_chart(self):
        two, by = Book(["a", "b"]), Sort([])
        saying = Saying.read("( or [ a > b ] [ b >= a ] )")
        chart = charted(two, saying.pairs)
        self.assertIs(shows_asked(two, saying, by, Asking(0, True, None, chart)), True)
        self.assertIs(shows_asked(two, saying, by, Asking(0, True, None, charted(two, []))), False)
        wide = charted(two, [*saying.pairs, Pair.read("a : 2 b")])
        self.assertIs(shows_asked(two, saying, by, Asking(0, True, None, wide)), False)
        # A chart whose lists agree on the sort and not on the truth.
        self.assertIs(shows_asked(two, SAYING, by, Asking(0, True, None, chart)), False)
        self.assertIs(shows_asked(two, SAYING, by, Asking(0, False, None, chart)), False)

    def test_sorts_of_more_pairs(self):
        two = Book(["a", "b"]).above_nothing()
        by = copies_of("a", "b", 3)
        self.assertEqual(len(by), 7)
        chart = charted(two, by)
        place = by.pairs.index(Pair.read("a : b"))
        tree = (place, True, False, False)
        saying = Saying.read("[ a > b ]")
        self.raises(TooMany, {"what": "asked", "most": 6}, asked, two, saying, by)
        held = chart.truths(saying)
        stall = (held.index(True), held.index(False))
        self.assertIs(shows_asked(two, saying, by, Asking(1, tree, stall, chart)), True)
        self.assertIs(shows_asked(two, saying, by, Asking(1, tree, stall[::-1], chart)), False)
        self.assertIs(shows_asked(two, yes(), by, Asking(0, True, None, chart)), True)

    def test_impossible_books(self):
        chart = charted(Book(["a", "b"]), SORT)
        empty = Chart((), (), (), ("barred", (1, 1)))
        for value in (Asking(0, True, None, empty), Asking(0, None, None, empty), Asking(1, (0, True, False, False), (0, 1), chart),
                      Divided(Scale({"a": 1, "b": 0}), Scale({"a": 1, "b": 0}))):
            self.assertIs(shows_asked(IMPOSSIBLE, SAYING, SORT, value), False)
        self.assertIs(shows_asked(Book(["a", "b"]), SAYING, SORT, Asking(1, (0, True, False, False), (0, 1), chart)), True)

    def test_carried_is_no_answer(self):
        paper = carried_by(FREE, TOP, BY_ORDER)
        self.assertTrue(paper)
        self.assertIs(shows_asked(FREE, TOP, BY_ORDER, paper), False)
        mean = Saying.read("[ a + b > 2 c ]")
        self.assertIs(shows_asked(FREE, mean, BY_ORDER, carried_by(FREE, mean, BY_ORDER)), True)

    def test_odd_values(self):
        chart = charted(FREE, BY_ORDER)
        for value in ODD:
            self.assertIs(shows_asked(FREE, TOP, BY_ORDER, value), False)
            self.assertIs(shows_asked(FREE, TOP, BY_ORDER, Asking(2, value, STALL, chart)), False)
            self.assertIs(shows_asked(FREE, TOP, BY_ORDER, Asking(2, TREE, value, chart)), False)
            self.assertIs(shows_asked(FREE, TOP, BY_ORDER, Asking(value, TREE, STALL, chart)), type(value) is int and value == 2)

    def test_four_things(self):
        book = Book(list("abcd"))
        by = order_of(book.things)
        paper = asked(book, greatest_is("b", book.things), by)
        self.assertIs(shows_asked(book, greatest_is("b", book.things), by, paper), True)
        self.assertIs(shows_asked(book, greatest_is("a", book.things), by, paper), False)


def deep_stall(number):
    """A value with the form of a stall of this length less one."""
    if number == 0:
        return None
    return (0, 8) if number == 1 else tuple([(at, 1, deep_stall(number - 1)) for at in range(3)])


if __name__ == "__main__":
    import unittest
    unittest.main()
