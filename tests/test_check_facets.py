"""[12] and scaleborn/check_facets.py."""

import itertools
import random

from scaleborn.balances import Balance
from scaleborn.books import Book
from scaleborn.carried import Carried, carried_by
from scaleborn.charts import Chart, charted
from scaleborn.check_facets import shows_coarsest, shows_facet, shows_whole
from scaleborn.check_wordings import shows_carried
from scaleborn.coarsest import Coarsest, TwoLeast, coarsest
from scaleborn.comparisons import Comparison, Pair
from scaleborn.errors import BadBook, BadSaying, NoThing, TooMany, Unlike
from scaleborn.facets import Facet, facets
from scaleborn.sayings import Saying, both_of, either_of, of_comparison
from scaleborn.scales import Scale
from scaleborn.sorts import Sort
from scaleborn.whole import Ragged, Whole, whole_in
from support import BOOK, CHART, ODD, SAYING, Case, bent_charts, bent_papers, extra_pairs, is_a, is_at, is_chart
from test_charts import IMPOSSIBLE, random_pairs
from test_coarsest import carries, has
from test_facets import QUAD, TIE, TRIO, UNLIKE, WIDE, beside, told, told_live


def cuts_of(book, saying, chart):
    """For each list of a chart its outcomes of the live pairs."""
    places = [chart.pairs.index(pair) for pair in told_live(book, saying)]
    return [tuple(outcomes[place] for place in places) for outcomes in chart.lists]


def has_chart(book, saying, value):
    return is_chart(book, value) and all(pair in value.pairs for pair in saying.pairs)


def is_facet(book, saying, value):
    """Whether a value is a right Facet, as [12] tells it."""
    if type(value) is not Facet or not has_chart(book, saying, value.chart):
        return False
    numbers = [value.more, value.alike, value.less]
    live = told_live(book, saying)
    if type(value.pair) is not Pair or value.pair not in live or not all(is_at(number, value.chart) for number in numbers):
        return False
    cuts = [dict(zip([str(pair) for pair in live], cuts_of(book, saying, value.chart)[number])) for number in numbers]
    if [cut.pop(str(value.pair)) for cut in cuts] != [1, 0, -1]:
        return False
    truths = {value.chart.truths(saying)[number] for number in numbers}
    return cuts[0] == cuts[1] == cuts[2] and 0 not in cuts[0].values() and len(truths) == 2


def is_shown_whole(book, saying, value):
    """Whether a value is a right Whole or Ragged."""
    if type(value) not in (Whole, Ragged) or not has_chart(book, saying, value.chart):
        return False
    cuts, truths = cuts_of(book, saying, value.chart), value.chart.truths(saying)
    by_cut = dict(zip(cuts, truths))
    if type(value) is Whole:
        return all(truth == all(by_cut[near] for near in beside(by_cut, cut)) for cut, truth in by_cut.items())
    if not is_at(value.at, value.chart):
        return False
    near = beside(by_cut, cuts[value.at])
    if value.beside is None:
        return not truths[value.at] and all(by_cut[cut] for cut in near)
    return (is_at(value.beside, value.chart) and truths[value.at] and not truths[value.beside]
            and cuts[value.beside] in near)


def is_coarsest(book, saying, value):
    """Whether a value is a right Coarsest or TwoLeast."""
    if type(value) is Coarsest:
        if type(value.facets) is not tuple or not all(is_facet(book, saying, facet) for facet in value.facets):
            return False
        pairs = [facet.pair for facet in value.facets]
        if len({str(pair) for pair in pairs}) < len(pairs) or type(value.carried) is not Carried:
            return False
        return shows_carried(book, saying, Sort(pairs), value.carried)
    if type(value) is not TwoLeast or any(row.kind == ">=" for row in book.rows):
        return False
    if not isinstance(value.first, Sort) or not isinstance(value.second, Sort) or not has_chart(book, saying, value.chart):
        return False
    if not all(pair in value.chart.pairs for pair in [*value.first, *value.second]):
        return False
    if not is_at(value.one, value.chart) or not is_at(value.other, value.chart):
        return False
    for one, other in ((value.first, value.second), (value.second, value.first)):
        if not carries(book, list(one), saying) or all(has(book, other, pair) for pair in one):
            return False
        if any(carries(book, [its for its in one if its != pair], saying) for pair in one):
            return False
    truths = value.chart.truths(saying)
    one, other = [value.chart.lists[number] for number in (value.one, value.other)]
    alike = all(one[at] == other[at] for at, pair in enumerate(value.chart.pairs)
                if pair in value.first and has(book, value.second, pair))
    return alike and truths[value.one] != truths[value.other]


class CheckFacets(Case):
    def check(self, shows, is_right, book, saying, values):
        """All values are told as they are; how many are right."""
        right = 0
        for value in values:
            found = shows(book=book, saying=saying, value=value)
            self.assertIs(found, bool(is_right(book, saying, value)))
            right += found
        return right

    def test_example(self):
        lone, short, both = Pair.read("a : b"), Sort.read("a : b , c : d"), Sort.read("a : b , a + c : b + d")
        wider = charted(QUAD, [lone, Pair.read("c : d"), Pair.read("a + c : b + d")])
        self.assertEqual(([wider.lists[at] for at in (1, 5, 6, 7, 8)], len(wider)),
                         ([(1, 0, 1), (0, 1, 1), (0, 0, 0), (0, -1, -1), (-1, 1, 1)], 13))
        self.assertEqual(
            [shows_facet(QUAD, TIE, Facet(lone, 0, 5, 8, wider)), shows_facet(QUAD, TIE, Facet(lone, 1, 6, 11, wider)),
             shows_coarsest(QUAD, TIE, TwoLeast(5, 7, short, both, wider))], [True, False, True])
        self.assertIs(shows_coarsest(QUAD, TIE, TwoLeast(7, 5, short, both, wider)), True)
        self.assertIs(shows_coarsest(QUAD, TIE, TwoLeast(7, 5, both, short, wider)), True)
        self.assertIs(shows_coarsest(QUAD, TIE, TwoLeast(5, 7, short, short, wider)), False)
        self.assertIs(shows_coarsest(QUAD, TIE, TwoLeast(5, 6, short, both, wider)), True)
        self.assertIs(shows_coarsest(QUAD, TIE, TwoLeast(0, 8, short, both, wider)), False)

    def test_what_the_functions_return(self):
        counts = {}
        for seed, kinds in ((301, (">", "=")), (302, (">", ">=", "="))):
            for book, saying in told(90, seed, pairs=3, kinds=kinds):
                for facet in facets(book, saying):
                    self.assertIs(shows_facet(book, saying, facet), True)
                    counts["facet"] = counts.get("facet", 0) + 1
                paper = whole_in(book, saying)
                self.assertIs(shows_whole(book, saying, paper), True)
                counts[paper.word] = counts.get(paper.word, 0) + 1
                try:
                    paper = coarsest(book, saying)
                except Unlike:
                    continue
                self.assertIs(shows_coarsest(book, saying, paper), True)
                counts[paper.word] = counts.get(paper.word, 0) + 1
        self.assertEqual(sorted(counts), ["coarsest", "facet", "ragged", "twoleast", "whole"])
        self.assertGreater(min(counts.values()), 2)

    def test_facets_bent(self):
        right = 0
        for book, saying in told(9, 303, pairs=3):
            for facet in facets(book, saying)[:2]:
                right += self.check(shows_facet, is_facet, book, saying, bent_papers(facet))
                pairs = [*saying.pairs, *extra_pairs(book), Pair(-facet.pair.balance)]
                right += self.check(shows_facet, is_facet, book, saying, [Facet(pair, *facet.parts[1:]) for pair in pairs])
                right += self.check(shows_facet, is_facet, book, saying,
                                    [Facet(*facet.parts[:4], chart) for chart in bent_charts(book, facet.chart)])
                self.assertIs(shows_facet(book, ~saying, facet), True)
        self.assertGreater(right, 12)

    def test_all_numbers(self):
        right = wrong = 0
        for book, saying in told(14, 304, pairs=2):
            every = [*saying.pairs, *[pair for pair in extra_pairs(book)[:1] if pair not in saying.pairs]]
            for chart in (charted(book, saying.pairs), charted(book, every[::-1])):
                numbers = range(-1, len(chart) + 1)
                if len(chart) > 7:
                    continue
                for pair in saying.pairs:
                    values = [Facet(pair, *three, chart) for three in itertools.product(numbers, repeat=3)]
                    count = self.check(shows_facet, is_facet, book, saying, values)
                    right, wrong = right + count, wrong + len(values) - count
                values = [Ragged(*two, chart) for two in itertools.product(numbers, [None, *numbers])]
                right += self.check(shows_whole, is_shown_whole, book, saying, [*values, Whole(chart)])
        self.assertGreater(right, 25)
        self.assertGreater(wrong, 500)

    def test_wholes_bent(self):
        words = set()
        for book, saying in told(24, 305, pairs=3):
            paper = whole_in(book, saying)
            words.add((paper.word, paper.word == "ragged" and paper.beside is None))
            self.check(shows_whole, is_shown_whole, book, saying, bent_papers(paper))
            for chart in bent_charts(book, paper.chart):
                self.check(shows_whole, is_shown_whole, book, saying, [type(paper)(*paper.parts[:-1], chart)])
            self.check(shows_whole, is_shown_whole, book, ~saying, [paper])
        self.assertEqual(len(words), 3)

    def test_a_pair_that_is_one_with_another(self):
        # In this book a : b and a : c are one; the first of them alone stands for both.
        book, saying = Book.read("a b c | b = c"), Saying.read("( and [ a > b ] [ a > c ] )")
        chart = charted(book, saying.pairs)
        self.assertEqual(chart.lists, ((1, 1), (0, 0), (-1, -1)))
        self.assertIs(shows_facet(book, saying, Facet(Pair.read("a : b"), 0, 1, 2, chart)), True)
        self.assertIs(shows_facet(book, saying, Facet(Pair.read("a : c"), 0, 1, 2, chart)), False)
        self.assertIs(shows_whole(book, saying, Whole(chart)), True)
        # A pair that is held alike has 0 everywhere, and is looked at nowhere.
        tied = Book.read("a b c | b = c , a >= b")
        saying = Saying.read("( and [ a > b ] [ b = c ] )")
        chart = charted(tied, saying.pairs)
        self.assertEqual(chart.lists, ((1, 0), (0, 0)))
        self.assertIs(shows_whole(tied, saying, Ragged(1, None, chart)), True)
        self.assertIs(shows_whole(tied, saying, Whole(chart)), False)

    def test_coarsest_bent(self):
        source, words = random.Random(306), {}
        for book, saying in [*told(30, 307, pairs=3, kinds=(">", "=")), *ties(8, 308)]:
            paper = coarsest(book, saying)
            words[paper.word] = words.get(paper.word, 0) + 1
            if words[paper.word] > 6:
                continue
            self.check(shows_coarsest, is_coarsest, book, saying, bent_papers(paper, ODD[::5]))
            loose = book.with_rows(Comparison(Balance.of(book.things[0]) * 0 + Balance.of(book.things[-1]), ">="))
            self.check(shows_coarsest, is_coarsest, loose, saying, [paper])
            if paper:
                for order in (*itertools.permutations(paper.facets), list(paper.facets)):
                    self.assertIs(shows_coarsest(book, saying, Coarsest(order, paper.carried)), True)
                few = [Coarsest(paper.facets[1:], paper.carried), Coarsest((*paper.facets, *paper.facets[:1]), paper.carried)]
                few.extend([Coarsest(paper.facets, Carried(paper.carried.wording, chart))
                            for chart in bent_charts(book, paper.carried.chart)])
                self.check(shows_coarsest, is_coarsest, book, saying, few)
            else:
                few = [TwoLeast(*paper.parts[:4], chart) for chart in bent_charts(book, paper.chart)]
                for number in range(len(paper.chart)):
                    few.append(TwoLeast(number, paper.other, *paper.parts[2:]))
                    few.append(TwoLeast(paper.one, number, *paper.parts[2:]))
                for sort in (Sort(saying.pairs), paper.first.only([0]), Sort([]), paper.first + paper.second):
                    few.append(TwoLeast(paper.one, paper.other, sort, paper.second, paper.chart))
                    few.append(TwoLeast(paper.one, paper.other, paper.first, sort, paper.chart))
                source.shuffle(few)
                self.check(shows_coarsest, is_coarsest, book, saying, few)
        self.assertGreater(min(words.values()), 3)

    def test_two_least_that_share_pairs_that_are_one(self):
        # In this book c : d and c + a : d + b are one, so both sorts have all pairs of one another.
        book = Book.read("a b c d e f | e = f")
        saying = Saying.read("( or [ a > b ] ( and [ a = b ] [ c > d ] ) )")
        chart = charted(book, [Pair.read(text) for text in ("a : b", "c : d", "c + e : d + f", "a + c : b + d")])
        numbers = [chart.number_of(told) for told in ((0, 1, 1, 1), (0, -1, -1, -1))]
        first, same, second = [Sort.read(f"a : b , {text}") for text in ("c : d", "c + e : d + f", "a + c : b + d")]
        self.assertIs(shows_coarsest(book, saying, TwoLeast(*numbers, first, same, chart)), False)
        self.assertIs(shows_coarsest(book, saying, TwoLeast(*numbers, first, second, chart)), True)
        self.assertIs(shows_coarsest(book, saying, TwoLeast(*numbers, same, second, chart)), True)

    def test_what_a_two_least_lacks(self):
        lone, extra = Pair.read("a : b"), Pair.read("a : 0")
        short, both = Sort.read("a : b , c : d"), Sort.read("a : b , a + c : b + d")
        pairs = [lone, Pair.read("c : d"), Pair.read("a + c : b + d"), extra]
        for row, right in ((">", True), ("=", True), (">=", False)):
            # The same chart, in books that are strict or not.
            book = Book.read(f"a b c d e | e {row} 0")
            chart = charted(book, pairs)
            numbers = [[told[:3] for told in chart.lists].index(three) for three in ((0, 1, 1), (0, -1, -1))]
            self.assertIs(shows_coarsest(book, TIE, TwoLeast(*numbers, short, both, chart)), right)
        chart = charted(QUAD, pairs)
        numbers = [[told[:3] for told in chart.lists].index(three) for three in ((0, 1, 1), (0, -1, -1))]
        for first, second, right in ((short, both, True), (short + Sort([extra]), both, False), (short, both + Sort([extra]), False),
                                     (Sort([extra]) + short, both, False), (short, Sort([extra]) + both, False),
                                     (Sort([lone]), both, False), (short, Sort([lone]), False), (Sort([]), both, False)):
            self.assertIs(shows_coarsest(QUAD, TIE, TwoLeast(*numbers, first, second, chart)), right)
        # No facet, and no common pair: the numbers may be those of the first list and of the middle one.
        alike = Saying.read("( and [ a = b ] [ c = d ] )")
        second = Sort.read("a + c : b + d , a + d : b + c")
        chart = charted(QUAD, [*short, *second])
        middle = chart.number_of((0, 0, 0, 0))
        self.assertEqual(facets(QUAD, alike), ())
        for numbers, right in (((0, middle), True), ((middle, 0), True), ((len(chart) - 1, middle), True), ((-1, middle), False),
                               ((middle, len(chart)), False), ((0, 1), False), ((middle, middle), False)):
            self.assertIs(shows_coarsest(QUAD, alike, TwoLeast(*numbers, short, second, chart)), right)
        # Facets that carry too little.
        found, apart = facets(QUAD, TIE), carried_by(QUAD, TIE, Sort([lone]))
        self.assertFalse(apart)
        self.assertIs(shows_coarsest(QUAD, TIE, Coarsest(found, apart)), False)

    def test_numbers_that_count_from_the_end(self):
        edge = Book.read("a b | a >= b")
        chart = charted(edge, SAYING.pairs)
        self.assertEqual(chart.lists, ((1,), (0,)))
        for at, right in ((1, True), (-1, False), (0, False), (2, False)):
            self.assertIs(shows_whole(edge, SAYING, Ragged(at, None, chart)), right)

    def test_true_in_the_place_of_1(self):
        chart = charted(TRIO, WIDE.pairs)
        facet = facets(TRIO, WIDE)[0]
        bad = Chart(chart.pairs, [[True if told == 1 else told for told in row] for row in chart.lists], chart.scales, chart.tree)
        self.assertEqual(bad, chart)
        self.assertIs(shows_facet(TRIO, WIDE, Facet(*facet.parts[:4], bad)), False)
        self.assertIs(shows_whole(TRIO, WIDE, Whole(bad)), False)
        two = Book(["a", "b"])
        lone = charted(two, SAYING.pairs)
        self.assertIs(shows_facet(two, SAYING, Facet(SAYING.pairs[0], 0, 1, 2, lone)), True)
        self.assertIs(shows_facet(two, SAYING, Facet(SAYING.pairs[0], False, True, 2, lone)), False)
        self.assertIs(shows_whole(two, ~SAYING, Ragged(1, None, lone)), False)
        unlike = Saying.read("[ a = b ]")
        self.assertIs(shows_whole(two, unlike, Ragged(1, 0, lone)), True)
        self.assertIs(shows_whole(two, unlike, Ragged(True, False, lone)), False)

    def test_impossible_books(self):
        chart = charted(Book(["a", "b"]), SAYING.pairs)
        for value in (Facet(SAYING.pairs[0], 0, 1, 2, chart), Facet(SAYING.pairs[0], 0, 1, 2, CHART)):
            self.assertIs(shows_facet(IMPOSSIBLE, SAYING, value), False)
        empty = Chart((), (), (), ("barred", (1, 1)))
        carried = Carried(SAYING, chart)
        for value in (Whole(chart), Whole(empty), Ragged(0, 2, chart)):
            self.assertIs(shows_whole(IMPOSSIBLE, SAYING, value), False)
        for value in (Coarsest((), carried), Coarsest((), Carried(SAYING, empty)), TwoLeast(0, 1, Sort([]), Sort([]), empty)):
            self.assertIs(shows_coarsest(IMPOSSIBLE, SAYING, value), False)

    def test_beyond_bounds(self):
        book = Book(["a", "b"]).above_nothing()
        ladder = [of_comparison(Comparison.read(f"a > {count} b")) for count in range(2, 23)]
        saying = both_of(ladder)
        self.raises(TooMany, {"what": "pairs", "most": 20}, facets, book, saying)
        top = book.with_rows(Comparison.read("a > 21 b"))
        chart = Chart(saying.pairs, *wide_chart(22))
        self.assertIs(shows_facet(top, saying, Facet(saying.pairs[-1], 0, 1, 2, chart)), True)
        self.assertIs(shows_whole(top, saying, Whole(chart)), True)
        sixteen = either_of([ladder[at] & ~ladder[at + 1] for at in range(0, 16, 2)])
        found = facets(book, sixteen)
        self.assertEqual(len(found), 16)
        self.assertIs(shows_coarsest(book, sixteen, Coarsest(found, Carried(sixteen, found[0].chart))), False)
        fifteen = either_of([*[ladder[at] & ~ladder[at + 1] for at in range(0, 14, 2)], ladder[14]])
        paper = coarsest(book, fifteen)
        self.assertEqual((len(paper.facets), shows_coarsest(book, fifteen, paper)), (15, True))

    def test_odd_values(self):
        for value in ODD:
            for shows in (shows_facet, shows_whole, shows_coarsest):
                self.assertIs(shows(TRIO, UNLIKE, value), False)

    def test_errors(self):
        for shows in (shows_facet, shows_whole, shows_coarsest):
            self.refuses(BadBook, "book", lambda value: shows(value, None, None), [is_a(Book)])
            self.refuses(BadSaying, "saying", lambda value: shows(IMPOSSIBLE, value, None), [is_a(Saying)])
            self.raises(NoThing, {"name": "c"}, shows, IMPOSSIBLE, Saying.read("( and [ d > a ] [ a + c > b ] )"), None)
            self.assertIs(shows(BOOK, SAYING, None), False)


def ties(many, seed):
    """Books without rows, and sayings that look at a second pair where the first is alike."""
    source = random.Random(seed)
    while many > 0:
        pairs = random_pairs(source, "abcd", 2)
        if len(pairs) == 2:
            one, other = [pair.balance for pair in pairs]
            yield QUAD, either_of([of_comparison(Comparison(one, ">")),
                                   of_comparison(Comparison(one, "=")) & of_comparison(Comparison(other, ">="))])
            many -= 1


def wide_chart(most):
    """The lists, scales and tree of a > 2 b .. a > most b in a book of a > 0, b > 0, a > (most - 1) b."""
    many = most - 1
    lists = [(1,) * many, (1,) * (many - 1) + (0,), (1,) * (many - 1) + (-1,)]
    scales = [Scale({"a": 2 * most + shift, "b": 2}) for shift in (1, 0, -1)]
    tree = ("branch", ("list", 0), ("list", 1), ("list", 2))
    for count in range(most - 1, 1, -1):
        # The rows are a > 0, b > 0, a > (most - 1) b and those of the outcomes ahead.
        ahead = (0,) * (count - 2)
        less = (0, most - 1 - count, 1, *ahead)
        tree = ("branch", tree, ("barred", (*less, -1)), ("barred", (*less, 1)))
    return lists, scales, tree


if __name__ == "__main__":
    import unittest
    unittest.main()
