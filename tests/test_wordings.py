"""[11], scaleborn/wordings.py and shows_wordings of scaleborn/check_wordings.py."""

import random

from scaleborn.balances import Balance
from scaleborn.books import Book
from scaleborn.charts import Chart, charted
from scaleborn.check_charts import shows_chart
from scaleborn.check_wordings import shows_wordings
from scaleborn.comparisons import Comparison, Pair
from scaleborn.errors import BadBook, BadPaper, BadSaying, BadSort, Impossible, NoPair, NoThing, TooMany
from scaleborn.papers import Denial, Paper
from scaleborn.ratios import Ratio
from scaleborn.ready_sayings import says_more
from scaleborn.ready_sorts import copies_of, heaps_of, order_of
from scaleborn.rounds import fit, is_possible
from scaleborn.sayings import Saying, both_of, no, of_comparison, yes
from scaleborn.sorts import Sort
from scaleborn.verdicts import truth_in
from scaleborn.wordings import Wordings, wordings, wordings_in
from support import BOOK, CHART, ODD, SAYING, SORT, Case, bent_all_through, is_a, is_just
from test_charts import IMPOSSIBLE, all_lists, cases, random_pairs, random_saying


def asked(many, seed, rows=4, pairs=4):
    """Possible books, sayings, and sorts some pairs of which the sayings have."""
    source = random.Random(seed)
    for book, told in cases(many, seed, rows, pairs):
        if not told:
            yield book, source.choice([yes(), no()]), Sort(random_pairs(source, book.things, 2))
            continue
        saying = random_saying(source, told)
        some = source.sample(told, source.randint(0, len(told)))
        if source.random() < 0.4:
            some = list({str(pair): pair for pair in [*some, *random_pairs(source, book.things, 1)]}.values())
        yield book, saying, Sort(source.sample(some, len(some)))


def together(by, saying):
    """The pairs of a sort, then those of a saying, each once."""
    return list({str(pair): pair for pair in [*by, *saying.pairs]}.values())


def truths_by(book, saying, by):
    """For each full list whether the saying holds at the outcome lists that have it."""
    pairs = together(by, saying)
    texts = [str(pair) for pair in pairs]
    found = {}
    for outcomes in all_lists(book, pairs):
        found.setdefault(outcomes[:len(by)], set()).add(saying.truth_by(dict(zip(texts, outcomes))))
    return found


def told_wordings(book, saying, by):
    """Both wordings, from the outcome lists."""
    found = truths_by(book, saying, by)
    fulls = sorted(found, reverse=True)
    return (tuple(full for full in fulls if True in found[full]), tuple(full for full in fulls if found[full] == {True}))


class Both(Case):
    def test_example(self):
        abc, order = Book(["a", "b", "c"]), order_of(["a", "b", "c"])
        mean = says_more(Balance.of("a", "b"), ">", Balance({"c": 2}))
        told = wordings(abc, mean, order)
        self.assertEqual([len(told.outer), len(told.inner), [full for full in told.outer if full not in told.inner]],
                         [7, 5, [(1, 1, -1), (-1, -1, 1)]])
        self.assertTrue(wordings_in(told.chart, ~mean, order)[1] == tuple(
            [full for full in told.chart.cut(order) if full not in told.outer]))
        self.assertEqual([shows_wordings(abc, mean, order, told),
                          shows_wordings(abc, mean, order, Wordings(told.outer, told.outer, told.chart))], [True, False])
        two, twice = Book(["a", "b"]).above_nothing(), says_more(Balance.of("a"), ">", Balance({"b": 2}))
        self.assertEqual(wordings(two, twice, copies_of("a", "b", 1)).parts[:2], (((1,),), ()))

    def test_paper(self):
        paper = Wordings(chart=CHART, inner=[[0]], outer=[[1]])
        self.assertEqual((paper.word, paper.parts, bool(paper)), ("wordings", (((1,),), ((0,),), CHART), True))
        self.assertEqual((paper.outer, paper.inner, paper.chart), (((1,),), ((0,),), CHART))
        self.assertNotIsInstance(paper, Denial)

    def test_against_outcome_lists(self):
        source, parted = random.Random(151), 0
        for book, saying, by in asked(250, 152):
            paper = wordings(book=book, saying=saying, by=by)
            self.assertIs(type(paper), Wordings)
            self.assertEqual((paper.outer, paper.inner), told_wordings(book, saying, by))
            self.assertEqual(list(paper.chart.pairs), together(by, saying))
            self.assertIs(shows_chart(book, together(by, saying), paper.chart), True)
            self.assertIs(shows_wordings(book=book, saying=saying, by=by, value=paper), True)
            more = together(Sort(together(by, saying)), both_of([of_comparison(row) for row in book.rows]))
            source.shuffle(more)
            chart = charted(book, more)
            self.assertEqual(wordings_in(chart=chart, saying=saying, by=by), (paper.outer, paper.inner))
            self.assertIs(shows_wordings(book, saying, by, Wordings(paper.outer, paper.inner, chart)), True)
            self.assertEqual(wordings(book, saying, Sort(list(by.pairs))), paper)
            parted += paper.outer != paper.inner
        self.assertGreater(parted, 40)

    def test_facts(self):
        source = random.Random(153)
        for book, saying, by in asked(120, 154, pairs=3):
            fulls = all_lists(book, by.pairs)
            outer, inner = wordings(book, saying, by).parts[:2]
            self.assertLessEqual(set(inner), set(outer))
            self.assertEqual((inner == fulls, outer == ()), (truth_in(book, saying) is True, truth_in(book, saying) is False))
            turned = wordings(book, ~saying, by)
            self.assertEqual(set(turned.outer), set(fulls) - set(inner))
            self.assertEqual(set(turned.inner), set(fulls) - set(outer))
            if not saying.pairs:
                continue
            other = random_saying(source, saying.pairs)
            its_outer, its_inner = wordings(book, other, by).parts[:2]
            both, either = wordings(book, saying & other, by), wordings(book, saying | other, by)
            self.assertEqual(set(either.outer), set(outer) | set(its_outer))
            self.assertEqual(set(both.inner), set(inner) & set(its_inner))
            self.assertLessEqual(set(both.outer), set(outer) & set(its_outer))
            self.assertLessEqual(set(inner) | set(its_inner), set(either.inner))
            further = by + Sort([saying.pairs[-1]])
            more = wordings(book, saying, further)
            for full in more.outer:
                self.assertIn(full[:len(by)], outer)
            for full in all_lists(book, further.pairs):
                if full[:len(by)] in inner:
                    self.assertIn(full, more.inner)
            row = saying.comparisons[0]
            if is_possible(book.with_rows(row)):
                later = wordings(book.with_rows(row), saying, by)
                left = all_lists(book.with_rows(row), by.pairs)
                self.assertLessEqual(set(left), set(fulls))
                self.assertLessEqual(set(later.outer), set(outer))
                self.assertLessEqual(set(inner) & set(left), set(later.inner))

    def test_no_pairs(self):
        for book, saying, _ in asked(60, 155):
            outer, inner = wordings(book, saying, Sort([])).parts[:2]
            word = truth_in(book, saying)
            self.assertEqual((outer, inner), {True: (((),), ((),)), False: ((), ()), None: (((),), ())}[word])

    def test_errors(self):
        for function in (wordings, lambda *told: shows_wordings(*told, None)):
            self.refuses(BadBook, "book", lambda value: function(value, None, None), [is_a(Book)])
            self.refuses(BadSaying, "saying", lambda value: function(IMPOSSIBLE, value, None), [is_a(Saying)])
            self.refuses(BadSort, "by", lambda value: function(IMPOSSIBLE, Saying.read("[ z > 0 ]"), value), [is_a(Sort)])
            self.raises(NoThing, {"name": "z"}, function, IMPOSSIBLE, Saying.read("[ z > 0 ]"), Sort.read("c : d"))
            self.raises(NoThing, {"name": "c"}, function, IMPOSSIBLE, SAYING, Sort.read("d : e , c : d"))
        self.raises(Impossible, {"paper": fit(IMPOSSIBLE)}, wordings, IMPOSSIBLE, SAYING, SORT)
        book = Book.read("a b | a > 50 b , b > 0")
        many = [of_comparison(Comparison.read(f"a > {count} b")) for count in range(2, 23)]
        sort = Sort([Pair.read(f"a : {count} b") for count in range(2, 10)])
        self.raises(TooMany, {"what": "pairs", "most": 20}, wordings, book, both_of(many[5:]), sort + Sort.read("a : b"))
        self.assertEqual(len(wordings(book, both_of(many[:20]), sort).chart.pairs), 20)
        abc = Book(["a", "b", "c"])
        self.raises(TooMany, {"what": "lists", "most": 250}, wordings, abc, SAYING, heaps_of(["a", "b", "c"]))
        self.refuses(BadPaper, "chart", lambda value: wordings_in(value, None, None), [is_a(Chart)])
        self.refuses(BadSaying, "saying", lambda value: wordings_in(CHART, value, None), [is_a(Saying)])
        self.refuses(BadSort, "by", lambda value: wordings_in(CHART, SAYING, value), [is_a(Sort)])
        self.raises(BadPaper, {"part": "chart"}, wordings_in, Paper("chart", *CHART.parts), SAYING, SORT)
        wide = Saying.read("[ y > z ]")
        self.raises(NoPair, {"pair": "b : c"}, wordings_in, CHART, wide, Sort.read("a : b , b : c , c : d"))
        self.raises(NoPair, {"pair": "y : z"}, wordings_in, CHART, wide, SORT)


class ShowsWordings(Case):
    def test_bent(self):
        shown = 0
        for book, saying, by in asked(60, 156, pairs=2):
            paper = wordings(book, saying, by)
            others = [None, True, 0, 1, -1, 2, Ratio(1), "", (), (0,), paper.outer, paper.inner]
            for at in range(2):
                for bend in bent_all_through(paper.parts[at], others):
                    parts = list(paper.parts)
                    parts[at] = bend
                    told = is_just(bend, paper.parts[at])
                    self.assertIs(shows_wordings(book, saying, by, Wordings(*parts)), told, bend)
                    shown += told
            outer, inner, chart = paper.parts
            for value in (Paper("wordings", *paper.parts), Wordings(outer, inner, None), Wordings(outer, inner, BOOK),
                          Wordings(outer, inner, Chart(chart.pairs, chart.lists, chart.scales[::-1], ("list", 0))),
                          Wordings(outer[::-1], inner, chart) if len(outer) > 1 else None, chart):
                told = isinstance(value, Wordings) and value.chart == chart and value.outer == outer
                self.assertIs(shows_wordings(book, saying, by, value), told)
            for pairs in ([], by.pairs, saying.pairs):
                chart = charted(book, pairs)
                told = {str(pair) for pair in together(by, saying)} <= {str(pair) for pair in pairs}
                self.assertIs(shows_wordings(book, saying, by, Wordings(outer, inner, chart)), told)
            for other in [book.without(at) for at in range(len(book))]:
                self.assertIs(shows_wordings(other, saying, by, paper),
                              shows_chart(other, paper.chart.pairs, paper.chart))
        self.assertGreater(shown, 5)

    def test_any_values(self):
        right = wordings(BOOK, SAYING, SORT)
        self.assertEqual(right.parts[:2], (((1,),), ((1,),)))
        for value in ODD:
            for book in (BOOK, IMPOSSIBLE):
                self.assertIs(shows_wordings(book, SAYING, SORT, value), False)
                self.assertIs(shows_wordings(book, SAYING, SORT, Wordings([[1]], [[1]], value)), value is CHART and book is BOOK)
                self.assertIs(shows_wordings(book, SAYING, SORT, Wordings([[1]], value, CHART)), False)
                self.assertIs(shows_wordings(book, SAYING, SORT, Wordings([[value]], [[value]], CHART)),
                              book is BOOK and type(value) is int and value == 1)


if __name__ == "__main__":
    import unittest
    unittest.main()
