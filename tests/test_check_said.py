"""[13] and scaleborn/check_said.py."""

import itertools
import random

from scaleborn.books import Book
from scaleborn.carried import Divided
from scaleborn.charts import Chart, charted
from scaleborn.check_said import shows_fewest, shows_finer, shows_said
from scaleborn.comparisons import Comparison, Pair
from scaleborn.errors import BadBook, BadSaying, BadSort, NoThing
from scaleborn.finer import Coarser, Finer, finer_than
from scaleborn.ready_sorts import gaps_of, order_of
from scaleborn.said import Fewest, SaidBy, fewest_said, said_by
from scaleborn.sayings import Saying, both_of, of_comparison
from scaleborn.scales import Scale
from scaleborn.sorts import Sort
from support import ODD, SAYING, SORT, Case, bent_charts, bent_papers, extra_pairs, is_a, is_at, is_chart, is_just, is_of
from test_charts import IMPOSSIBLE, all_lists
from test_finer import decides, two_sorts
from test_said import LESS, MORE, SAME, TWO, every_pair, says, some_told, told_truths


def is_divided(book, told, saying, value):
    if not is_of(book, value.one) or not is_of(book, value.other):
        return False
    return ([one.holds(value.one) for one in told] == [one.holds(value.other) for one in told]
            and saying.holds(value.one) and not saying.holds(value.other))


def has_chart(book, told, saying, value):
    return is_chart(book, value) and all(pair in value.pairs for pair in every_pair([*told, saying]))


def is_said(book, told, saying, value):
    """Whether a value is a right SaidBy or Divided."""
    if type(value) is Divided:
        return is_divided(book, told, saying, value)
    if type(value) is not SaidBy or not has_chart(book, told, saying, value.chart):
        return False
    truths = told_truths(book, told, saying)
    return says(truths, range(len(told))) and is_just(value.truths, truths)


def is_fewest(book, told, saying, value):
    """Whether a value is a right Fewest or Divided."""
    if type(value) is Divided:
        return is_divided(book, told, saying, value)
    if type(value) is not Fewest or not has_chart(book, told, saying, value.chart):
        return False
    numbers = value.numbers
    if type(numbers) is not tuple or not all(type(number) is int and 0 <= number < len(told) for number in numbers):
        return False
    if list(numbers) != sorted(set(numbers)) or not says(told_truths(book, told, saying), numbers):
        return False
    fewer = list(itertools.combinations(range(len(told)), len(numbers) - 1)) if numbers else []
    if type(value.parted) is not tuple or len(value.parted) != len(fewer):
        return False
    held = value.chart.truths(saying)
    columns = [value.chart.truths(one) for one in told]
    for some, pair in zip(fewer, value.parted):
        if type(pair) is not tuple or len(pair) != 2 or not all(is_at(number, value.chart) for number in pair):
            return False
        if not held[pair[0]] or held[pair[1]] or any(columns[number][pair[0]] != columns[number][pair[1]] for number in some):
            return False
    return True


def is_finer(book, one, other, value):
    """Whether a value is a right Finer or Coarser."""
    if type(value) is Finer:
        if not is_chart(book, value.chart) or not all(pair in value.chart.pairs for pair in [*one, *other]):
            return False
        return all(decides(book, one, pair) for pair in other)
    if type(value) is not Coarser or type(value.pair) is not Pair or value.pair not in list(other):
        return False
    if not is_of(book, value.one) or not is_of(book, value.other):
        return False
    return (value.one.outcomes(one) == value.other.outcomes(one)
            and value.one.outcome(value.pair) > value.other.outcome(value.pair))


class CheckSaid(Case):
    def check(self, shows, is_right, arguments, values):
        """All values are told as they are; how many are right."""
        right = 0
        for value in values:
            found = shows(*arguments, value)
            self.assertIs(found, bool(is_right(*arguments, value)))
            right += found
        return right

    def test_example(self):
        abc, order, gaps = Book(["a", "b", "c"]), order_of(["a", "b", "c"]), gaps_of(["a", "b", "c"])
        self.assertEqual(
            [shows_said(TWO, [MORE, LESS], SAME, said_by(TWO, [MORE, LESS], SAME)),
             shows_said(TWO, [MORE], SAME, Divided(Scale({"a": 1, "b": 1}), Scale({"a": 2, "b": 1}))),
             shows_fewest(TWO, [MORE, LESS], SAME, Fewest([0], [], []))], [True, True, False])
        self.assertIs(shows_finer(abc, order, gaps, Coarser(
            Pair.read("a + b : 2 c"), Scale({"a": 4, "b": 0, "c": 1}), Scale({"a": 3, "b": 0, "c": 2}))), True)
        self.assertIs(shows_finer(book=abc, one=order, other=gaps, value=None), False)
        self.assertIs(shows_said(book=abc, told=[], saying=SAME, value=None), False)
        self.assertIs(shows_fewest(book=abc, told=[], saying=SAME, value=None), False)

    def test_said_bent(self):
        words = {}
        for book, told, saying in some_told(60, 331):
            paper = said_by(book, told, saying)
            words[paper.word] = words.get(paper.word, 0) + 1
            if words[paper.word] > 9:
                continue
            told_all = (book, told, saying)
            self.check(shows_said, is_said, told_all, bent_papers(paper))
            if paper:
                charts = [SaidBy(paper.truths, chart) for chart in bent_charts(book, paper.chart)]
                self.check(shows_said, is_said, told_all, charts)
                self.assertIs(shows_said(book, told, saying, SaidBy(*as_lists(paper.truths), paper.chart)), True)
                self.check(shows_said, is_said, (book, told, ~saying), [paper])
                self.check(shows_said, is_said, (book, told[1:], saying), [paper])
            else:
                self.check(shows_said, is_said, told_all, [Divided(paper.other, paper.one), Divided(paper.one, paper.one)])
        self.assertGreater(min(words.values()), 5)

    def test_truths_of_a_chart_that_says_nothing(self):
        chart = charted(TWO, SAYING.pairs)
        truths = [[[True], True], [[True], False], [[False], False]]
        self.assertIs(shows_said(TWO, [MORE], SAME, SaidBy(truths, chart)), False)
        self.assertIs(shows_said(TWO, [MORE], SAME, SaidBy(truths[:1] + truths[2:], chart)), False)
        good = SaidBy([[[True, True], True], [[True, False], False], [[False, True], False]], chart)
        self.assertIs(shows_said(TWO, [MORE, LESS], SAME, good), True)
        for bad in ([[[1, 1], 1], [[1, 0], 0], [[0, 1], 0]], [[[True, True], True], [[True, False], False]],
                    [[[True, True], True], [[False, True], False], [[True, False], False]],
                    [[[True, True], True], [[True, False], False], [[False, True], False], [[False, False], False]],
                    [[[True, True], True], [[True, True], True], [[True, False], False], [[False, True], False]]):
            self.assertIs(shows_said(TWO, [MORE, LESS], SAME, SaidBy(bad, chart)), False)

    def test_fewest_bent(self):
        words = {}
        for book, told, saying in some_told(70, 332):
            paper = fewest_said(book, told, saying)
            words[paper.word] = words.get(paper.word, 0) + 1
            if words[paper.word] > 12:
                continue
            arguments = (book, told, saying)
            self.check(shows_fewest, is_fewest, arguments, bent_papers(paper))
            if paper:
                self.check(shows_fewest, is_fewest, arguments,
                           [Fewest(paper.numbers, chart, paper.parted) for chart in bent_charts(book, paper.chart)])
                sets = [some for count in range(len(told) + 1) for some in itertools.combinations(range(len(told)), count)]
                self.check(shows_fewest, is_fewest, arguments, [Fewest(some, paper.chart, paper.parted) for some in sets])
                self.check(shows_fewest, is_fewest, (book, [*told, saying], saying), [paper])
        self.assertGreater(min(words.values()), 9)

    def test_other_fewest_numbers(self):
        chart = charted(TWO, SAYING.pairs)
        told = [SAME, MORE, LESS, ~SAME]
        self.assertEqual(fewest_said(TWO, told, SAME).numbers, (0,))
        # Another one does as well; more than the fewest do not.
        for numbers, right in (([0], True), ([3], True), ([1], False), ([], False)):
            self.assertIs(shows_fewest(TWO, told, SAME, Fewest(numbers, chart, [[1, 0]])), right, numbers)
        self.assertIs(shows_fewest(TWO, told, SAME, Fewest([1, 2], chart, [[1, 0]] * 4)), False)
        for parted in ([[1, 2]], [[0, 1]], [[True, 0]], [[1, 0], [1, 0]], [[1, 0, 0]], [[1]], [1], [], [[1, 3]], [[1, -1]], 1):
            self.assertIs(shows_fewest(TWO, told, SAME, Fewest([0], chart, parted)), parted == [[1, 2]], parted)
        # For each set of one fewer, in order: at 0 MORE holds alone, at 1 both do, at 2 LESS alone.
        told = [MORE, LESS]
        for parted, right in (([[1, 0], [1, 2]], True), ([[1, 2], [1, 0]], False), ([[1, 0]], False), ([[1, 0]] * 2, False)):
            self.assertIs(shows_fewest(TWO, told, SAME, Fewest([0, 1], chart, parted)), right, parted)
        for numbers in ([1, 0], [0, 0, 1], [0, True], [False, 1], [0, 2], (0,), None, 5):
            self.assertIs(shows_fewest(TWO, told, SAME, Fewest(numbers, chart, [[1, 0], [1, 2]])), False)

    def test_wider_charts_and_many_told(self):
        pairs = [*extra_pairs(TWO), SAYING.pairs[0]]
        source = random.Random(333)
        for _ in range(4):
            source.shuffle(pairs)
            chart = charted(TWO, pairs)
            truths = said_by(TWO, [MORE, LESS], SAME).truths
            self.assertIs(shows_said(TWO, [MORE, LESS], SAME, SaidBy(truths, chart)), True)
            self.assertIs(shows_finer(TWO, SORT, Sort([]), Finer(chart)), True)
            self.assertIs(shows_finer(TWO, Sort([]), SORT, Finer(chart)), False)
            held = [chart.truths(one) for one in (MORE, LESS, SAME)]
            both = held[2].index(True)
            parted = [[both, [not one for one in held[at]].index(True)] for at in (1, 0)]
            self.assertIs(shows_fewest(TWO, [MORE, LESS], SAME, Fewest([0, 1], chart, parted)), True)
        many = [MORE] * 6 + [SAME]
        chart = charted(TWO, SAYING.pairs)
        self.assertIs(shows_fewest(TWO, many, SAME, Fewest([6], chart, [[1, 0]])), True)
        rows = [((True,) * 7, True), ((True,) * 6 + (False,), False), ((False,) * 7, False)]
        self.assertIs(shows_said(TWO, many, SAME, SaidBy(rows, chart)), True)

    def test_more_pairs_than_may_be_charted(self):
        top = Book.read("a b | a > 22 b , b > 0")
        many = both_of([of_comparison(Comparison.read(f"a > {count} b")) for count in range(2, 23)])
        lists, tree = [(1,) * 21], ("list", 0)
        for count in range(22, 1, -1):
            ahead = (0,) * (count - 2)
            tree = ("branch", tree, ("barred", (1, 22 - count, *ahead, -1)), ("barred", (1, 22 - count, *ahead, 1)))
        chart = Chart(many.pairs, lists, [Scale({"a": 45, "b": 2})], tree)
        self.assertIs(shows_said(top, [], many, SaidBy([[[], True]], chart)), True)
        self.assertIs(shows_fewest(top, [], many, Fewest([], chart, [])), True)
        self.assertIs(shows_finer(top, Sort([]), Sort(many.pairs[:15]), Finer(chart)), True)

    def test_finer_bent(self):
        words = {}
        for book, one, other in two_sorts(60, 334):
            paper = finer_than(book, one, other)
            words[paper.word] = words.get(paper.word, 0) + 1
            if words[paper.word] > 12:
                continue
            self.check(shows_finer, is_finer, (book, one, other), bent_papers(paper))
            if paper:
                charts = [Finer(chart) for chart in bent_charts(book, paper.chart) if len(paper.chart.pairs) > 0]
                self.check(shows_finer, is_finer, (book, one, other), charts)
                self.check(shows_finer, is_finer, (book, other, one), [paper, *charts])
            else:
                values = [Coarser(pair, *two) for pair in [*one, *other] for two in (paper.parts[1:], paper.parts[:0:-1])]
                self.check(shows_finer, is_finer, (book, one, other), values)
        self.assertGreater(min(words.values()), 10)

    def test_another_pair_than_the_first(self):
        abc, one, other = Book(["a", "b", "c"]), Sort.read("a : b"), Sort.read("a : c , b : c")
        scales = [Scale({"a": 1, "b": 1, "c": 0}), Scale({"a": 0, "b": 0, "c": 0})]
        for pair in other:
            self.assertIs(shows_finer(abc, one, other, Coarser(pair, *scales)), True)
            self.assertIs(shows_finer(abc, one, other, Coarser(pair, *scales[::-1])), False)
        self.assertIs(shows_finer(abc, one, other, Coarser(Pair.read("a : 0"), *scales)), False)

    def test_scales_that_do_not_agree(self):
        low, even, high = [Scale({"a": worth, "b": 1}) for worth in (0, 1, 2)]
        for told, one, other, right in (([MORE], even, high, True), ([MORE], even, low, False), ([LESS], even, low, True),
                                        ([LESS], even, high, False), ([MORE, LESS], even, high, False), ([], even, low, True),
                                        ([MORE, SAME], even, even, False), ([MORE], high, even, False)):
            for shows in (shows_said, shows_fewest):
                self.assertIs(shows(TWO, told, SAME, Divided(one, other)), right)
        for by, right in ((Sort([]), True), (Sort.read("a : 0"), False), (Sort.read("b : 0"), True)):
            self.assertIs(shows_finer(TWO, by, SORT, Coarser(SORT.pairs[0], high, low)), right)
            self.assertIs(shows_finer(TWO, by, SORT, Coarser(SORT.pairs[0], low, high)), False)

    def test_impossible_books(self):
        chart = charted(TWO, SAYING.pairs)
        empty = Chart((), (), (), ("barred", (1, 1)))
        one = Scale({"a": 1, "b": 0})
        for value in (SaidBy((), empty), SaidBy((), chart), Divided(one, one), Fewest((), empty, ()), Fewest((), chart, ())):
            self.assertIs(shows_said(IMPOSSIBLE, [], SAYING, value), False)
            self.assertIs(shows_fewest(IMPOSSIBLE, [SAYING], SAYING, value), False)
        for value in (Finer(empty), Finer(chart), Coarser(SAYING.pairs[0], one, one)):
            self.assertIs(shows_finer(IMPOSSIBLE, SORT, SORT, value), False)
        self.assertEqual(all_lists(IMPOSSIBLE, SAYING.pairs), ())

    def test_odd_values(self):
        for value in ODD:
            self.assertIs(shows_said(TWO, [MORE], SAME, value), False)
            self.assertIs(shows_fewest(TWO, [MORE], SAME, value), False)
            self.assertIs(shows_finer(TWO, SORT, SORT, value), False)

    def test_errors(self):
        far = Saying.read("( and [ d > a ] [ a + c > b ] )")
        for shows in (shows_said, shows_fewest):
            self.refuses(BadBook, "book", lambda value: shows(value, None, None, None), [is_a(Book)])
            self.refuses(BadSaying, "told", lambda value: shows(IMPOSSIBLE, value, None, None),
                         [lambda value: isinstance(value, (list, tuple)) and all(isinstance(one, Saying) for one in value)])
            self.refuses(BadSaying, "saying", lambda value: shows(IMPOSSIBLE, [far], value, None), [is_a(Saying)])
            self.raises(NoThing, {"name": "c"}, shows, IMPOSSIBLE, [SAYING] * 5 + [far], Saying.read("[ z > 0 ]"), None)
            self.raises(NoThing, {"name": "z"}, shows, IMPOSSIBLE, [SAYING], Saying.read("[ z > 0 ]"), None)
        self.refuses(BadBook, "book", lambda value: shows_finer(value, None, None, None), [is_a(Book)])
        self.refuses(BadSort, "one", lambda value: shows_finer(IMPOSSIBLE, value, None, None), [is_a(Sort)])
        self.refuses(BadSort, "other", lambda value: shows_finer(IMPOSSIBLE, Sort.read("z : 0"), value, None), [is_a(Sort)])
        self.raises(NoThing, {"name": "c"}, shows_finer, IMPOSSIBLE, Sort.read("d : e , c : d"), Sort.read("b : z"), None)
        self.raises(NoThing, {"name": "d"}, shows_finer, IMPOSSIBLE, SORT, Sort.read("e : f , d : e"), None)


def as_lists(*values):
    return [[[list(known), held] for known, held in value] for value in values]


if __name__ == "__main__":
    import unittest
    unittest.main()
