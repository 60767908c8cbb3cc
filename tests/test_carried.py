"""[11], scaleborn/carried.py, scaleborn/told_wordings.py, and shows_carried of scaleborn/check_wordings.py."""

import itertools
import random
import time

from scaleborn.balances import Balance
from scaleborn.books import Book
from scaleborn.carried import Carried, Divided, carried_by
from scaleborn.charts import Chart, charted
from scaleborn.check_charts import shows_chart
from scaleborn.check_wordings import shows_carried
from scaleborn.comparisons import Comparison, Pair
from scaleborn.errors import BadBook, BadPaper, BadSaying, BadSort, Impossible, NoThing, TooMany
from scaleborn.papers import Denial, Paper
from scaleborn.ratios import Ratio
from scaleborn.ready_sayings import says_more
from scaleborn.ready_sorts import copies_of, heaps_of, order_of
from scaleborn.rounds import fit
from scaleborn.sayings import Saying, both_of, no, of_comparison, yes
from scaleborn.scales import Scale
from scaleborn.sorts import Sort
from scaleborn.told_wordings import wording_of
from scaleborn.verdicts import are_same
from scaleborn.wordings import wordings
from support import BOOK, CHART, ODD, SAYING, SCALE, SORT, Case, is_a, is_just
from test_charts import IMPOSSIBLE, all_lists, cases
from test_struck import unfolded
from test_wordings import asked, together, truths_by


def literal(by, tree):
    """The place of a pair and the outcomes at which a literal of a told wording holds."""
    if tree[0] == "not":
        place, outcomes = literal(by, tree[1])
        assert outcomes == {0}
        return place, {1, -1}
    assert tree[0] == "holds"
    comparison = Comparison.read(tree[1])
    place = list(by).index(comparison.pair)
    turned = 1 if comparison.balance == comparison.pair.balance else -1
    return place, {">": {turned}, ">=": {turned, 0}, "=": {0}}[comparison.kind]


def terms_of(by, wording):
    """The terms of a told wording, each a dict from places of pairs to outcomes; refuses other forms."""
    tree = unfolded(wording)
    trees = tree[1:] if tree[0] == "or" else [tree]
    assert tree[0] != "or" or len(trees) != 1
    terms = []
    for one in trees:
        inner = one[1:] if one[0] == "and" else [one]
        assert one[0] != "and" or len(inner) != 1
        told = [literal(by, part) for part in inner]
        assert len({place for place, _ in told}) == len(told)
        terms.append(dict(told))
    return terms


def where(fulls, terms):
    return [full for full in fulls if any(all(full[place] in told for place, told in term.items()) for term in terms)]


class Shortness(Case):
    def check(self, by, fulls, wanted, wording):
        """The wording is told, holds at just the wanted ones of the full lists, and is short."""
        terms = terms_of(by, wording)
        self.assertEqual(where(fulls, terms), wanted)
        for at, term in enumerate(terms):
            others = terms[:at] + terms[at + 1:]
            self.assertNotEqual(where(fulls, others), wanted)
            for place in term:
                fewer = {other: told for other, told in term.items() if other != place}
                self.assertNotEqual(where(fulls, [*others, fewer]), wanted)


class Told(Shortness):
    def test_example(self):
        line, some = Book(["a", "b"]), order_of(["a", "b"])
        self.assertEqual([str(wording_of(line, some, [])), str(wording_of(line, some, [[1], [0], [-1]]))], ["( or )", "( and )"])
        self.assertEqual([wording_of(line, some, [(0,), (1,)]).holds(Scale({"a": 1, "b": worth})) for worth in (0, 1, 2)],
                         [True, True, False])
        self.raises(BadPaper, {"part": "fulls"}, wording_of, line, some, [(1, 0)])

    def test_each_choice_of_one_pair(self):
        line, some = Book(["a", "b"]), order_of(["a", "b"])
        for many in range(4):
            for fulls in itertools.combinations([(1,), (0,), (-1,)], many):
                wording = wording_of(line, some, fulls)
                self.check(some, [(1,), (0,), (-1,)], list(fulls), wording)
                for worth in (0, 1, 2):
                    scale = Scale({"a": 1, "b": worth})
                    self.assertIs(wording.holds(scale), scale.outcomes(some) in fulls)

    def test_many(self):
        source = random.Random(161)
        for book, pairs in cases(200, 162, pairs=4):
            by = Sort(pairs)
            fulls = list(all_lists(book, pairs))
            for many in (0, 1, source.randint(0, len(fulls)), len(fulls) - 1, len(fulls)):
                wanted = sorted(source.sample(fulls, many), reverse=True)
                told = [list(full) if source.random() < 0.5 else full for full in wanted * 2]
                told.extend([full for full in itertools.product((1, 0, -1), repeat=len(pairs)) if full not in fulls])
                source.shuffle(told)
                wording = wording_of(book=book, by=by, fulls=told)
                self.check(by, fulls, wanted, wording)
                if many == len(fulls):
                    self.assertEqual(wording, yes())
                if many == 0:
                    self.assertEqual(wording, no())
                self.assertEqual(wording_of(book, by, list(told)), wording)

    def test_no_pairs(self):
        for book in (BOOK, Book(["a"])):
            self.assertEqual((wording_of(book, Sort([]), []), wording_of(book, Sort([]), [[]]), wording_of(book, Sort([]), ((), ()))),
                             (no(), yes(), yes()))

    def test_errors(self):
        self.refuses(BadBook, "book", lambda value: wording_of(value, None, None), [is_a(Book)])
        self.refuses(BadSort, "by", lambda value: wording_of(IMPOSSIBLE, value, None), [is_a(Sort)])
        self.refuses(BadPaper, "fulls", lambda value: wording_of(IMPOSSIBLE, Sort.read("z : 0"), value), [
            lambda value: isinstance(value, (list, tuple)) and len(value) == 0])
        for value in ([[1], [1, 0]], [[True]], [[2]], [[-2]], [[Ratio(1)]], [["1"]], [[]], [1], [[None]], "1", {(1,): 1}):
            self.raises(BadPaper, {"part": "fulls"}, wording_of, BOOK, SORT, value)
        self.raises(NoThing, {"name": "c"}, wording_of, IMPOSSIBLE, Sort.read("d : e , c : d"), [])
        self.raises(Impossible, {"paper": fit(IMPOSSIBLE)}, wording_of, IMPOSSIBLE, SORT, [])
        abc = Book(["a", "b", "c"])
        self.raises(TooMany, {"what": "lists", "most": 250}, wording_of, abc, heaps_of(["a", "b", "c"]), [])

    def test_nothing_passed_is_changed(self):
        fulls = [[1], [0]]
        wording_of(BOOK, SORT, fulls)
        self.assertEqual(fulls, [[1], [0]])

    def test_times(self):
        start = time.perf_counter()
        source = random.Random(163)
        book, by = Book(list("abcd")), order_of(list("abcd"))
        fulls = charted(book, by).lists
        for _ in range(5):
            wanted = sorted(source.sample(fulls, 37), reverse=True)
            self.check(by, fulls, wanted, wording_of(book, by, wanted))
        two, by = Book(["a", "b"]).above_nothing(), copies_of("a", "b", 4)
        fulls = charted(two, by).lists
        wanted = list(fulls[::2])
        self.check(by, fulls, wanted, wording_of(two, by, wanted))
        self.assertLess(time.perf_counter() - start, 20)


class Carrying(Shortness):
    def test_example(self):
        abc, order = Book(["a", "b", "c"]), order_of(["a", "b", "c"])
        mean = says_more(Balance.of("a", "b"), ">", Balance({"c": 2}))
        sums, parted = Sort([Pair.read("a + b : 2 c")]), carried_by(abc, mean, order)
        self.assertEqual([bool(parted), mean.holds(parted.one), mean.holds(parted.other),
                          parted.one.outcomes(order) == parted.other.outcomes(order)], [False, True, False, True])
        self.assertEqual(str(carried_by(abc, mean, sums).wording), "[ a + b > 2 c ]")
        two, twice = Book(["a", "b"]).above_nothing(), says_more(Balance.of("a"), ">", Balance({"b": 2}))
        self.assertEqual([wordings(two, twice, copies_of("a", "b", 1)).parts[:2],
                          str(carried_by(two, twice, copies_of("a", "b", 2)).wording)], [(((1,),), ()), "[ a > 2 b ]"])
        by_hand = Divided(Scale({"a": 4, "b": 0, "c": 1}), Scale({"a": 3, "b": 0, "c": 2}))
        self.assertEqual(
            [shows_carried(abc, mean, order, by_hand), shows_carried(abc, mean, sums, by_hand),
             shows_carried(abc, mean, order, Divided(by_hand.other, by_hand.one))], [True, False, False])

    def test_papers(self):
        paper = Carried(chart=CHART, wording=[SAYING])
        self.assertEqual((paper.word, paper.parts, bool(paper), paper.wording, paper.chart),
                         ("carried", ((SAYING,), CHART), True, (SAYING,), CHART))
        paper = Divided(other=SCALE, one=[1])
        self.assertEqual((paper.word, paper.parts, bool(paper), paper.one, paper.other),
                         ("divided", ((1,), SCALE), False, (1,), SCALE))
        self.assertIsInstance(paper, Denial)

    def test_carried_exactly_if_both_wordings_are_one(self):
        counts = {True: 0, False: 0}
        for book, saying, by in asked(300, 164):
            found = truths_by(book, saying, by)
            told = all(len(truths) == 1 for truths in found.values())
            paper = carried_by(book=book, saying=saying, by=by)
            counts[told] += 1
            self.assertIs(type(paper), Carried if told else Divided)
            outer, inner, chart = wordings(book, saying, by).parts
            self.assertIs(outer == inner, told)
            self.assertIs(shows_carried(book=book, saying=saying, by=by, value=paper), True)
            self.assertEqual(carried_by(book, Saying(list(saying.parts)), Sort(list(by.pairs))), paper)
            if told:
                self.assertEqual(paper.chart, chart)
                self.assertTrue(are_same(book, saying, paper.wording))
                self.check(by, sorted(found, reverse=True), list(outer), paper.wording)
            else:
                for scale in paper.parts:
                    self.assertTrue(book.keeps(scale) and scale.things == book.things)
                self.assertEqual((saying.holds(paper.one), saying.holds(paper.other)), (True, False))
                self.assertEqual(paper.one.outcomes(by), paper.other.outcomes(by))
        self.assertGreater(min(counts.values()), 40)

    def test_facts(self):
        for book, saying, by in asked(100, 165, pairs=3):
            self.assertTrue(carried_by(book, saying, by + Sort(saying.pairs)))
            if carried_by(book, saying, by):
                self.assertTrue(carried_by(book, ~saying, by))
                self.assertTrue(carried_by(book, saying & ~saying, by))
                self.assertTrue(carried_by(book, saying, by + Sort.read("a : 0")))
            empty = carried_by(book, saying, Sort([]))
            self.assertEqual(bool(empty), len(set().union(*truths_by(book, saying, Sort([])).values())) == 1)
            if empty:
                self.assertIn(empty.wording, (yes(), no()))

    def test_errors(self):
        for function in (carried_by, lambda *told: shows_carried(*told, None)):
            self.refuses(BadBook, "book", lambda value: function(value, None, None), [is_a(Book)])
            self.refuses(BadSaying, "saying", lambda value: function(IMPOSSIBLE, value, None), [is_a(Saying)])
            self.refuses(BadSort, "by", lambda value: function(IMPOSSIBLE, Saying.read("[ z > 0 ]"), value), [is_a(Sort)])
            self.raises(NoThing, {"name": "z"}, function, IMPOSSIBLE, Saying.read("[ z > 0 ]"), Sort.read("c : d"))
            self.raises(NoThing, {"name": "c"}, function, IMPOSSIBLE, SAYING, Sort.read("d : e , c : d"))
        self.raises(Impossible, {"paper": fit(IMPOSSIBLE)}, carried_by, IMPOSSIBLE, SAYING, SORT)
        book = Book.read("a b | a > 50 b , b > 0")
        many = [of_comparison(Comparison.read(f"a > {count} b")) for count in range(2, 23)]
        self.raises(TooMany, {"what": "pairs", "most": 20}, carried_by, book, both_of(many[1:]), Sort.read("a : b"))
        abc = Book(["a", "b", "c"])
        self.raises(TooMany, {"what": "lists", "most": 250}, carried_by, abc, SAYING, heaps_of(["a", "b", "c"]))


class ShowsCarried(Case):
    def test_bent(self):
        source = random.Random(166)
        for book, saying, by in asked(150, 167):
            paper = carried_by(book, saying, by)
            if not paper:
                one, other = paper.parts
                self.assertIs(shows_carried(book, saying, by, Divided(one * 3, other * Ratio(1, 2))), True)
                wider = Scale({"z": 1, **{thing: one.worth(Balance.of(thing)) for thing in one.things}})
                for value in (Divided(other, one), Divided(one, one), Divided(other, other), Divided(wider, other),
                              Divided(one.only(one.things[1:]), other), Divided(one, None), Denial("divided", one, other),
                              Paper("divided", one, other), Carried(saying, charted(book, together(by, saying)))):
                    told = isinstance(value, Carried) and all(pair in by for pair in saying.pairs)
                    self.assertIs(shows_carried(book, saying, by, value), told)
                scale = Scale({thing: source.randint(-2, 2) for thing in book.things})
                told = book.keeps(scale) and saying.holds(scale) and scale.outcomes(by) == other.outcomes(by)
                self.assertIs(shows_carried(book, saying, by, Divided(scale, other)), told)
                told = book.keeps(scale) and not saying.holds(scale) and scale.outcomes(by) == one.outcomes(by)
                self.assertIs(shows_carried(book, saying, by, Divided(one, scale)), told)
                continue
            wording, chart = paper.parts
            mine = all(pair in by for pair in saying.pairs)
            more = together(Sort(together(by, saying)), both_of([of_comparison(row) for row in book.rows]))
            source.shuffle(more)
            wider = charted(book, more)
            for told, right in ((wording, True), (~wording, False), (saying, mine), (wording | yes() & wording, True), (None, False),
                                (wording & SAYING.renamed({"b": "z"}), False), ([wording], False), (str(wording), False)):
                self.assertIs(shows_carried(book, saying, by, Carried(told, chart)), right)
                self.assertIs(shows_carried(book, saying, by, Carried(told, wider)), right)
            for pairs in ([], by.pairs, saying.pairs):
                told = {str(pair) for pair in together(by, saying)} <= {str(pair) for pair in pairs}
                self.assertIs(shows_carried(book, saying, by, Carried(wording, charted(book, pairs))), told)
            for value in (Paper("carried", wording, chart), Carried(chart, wording), Carried(wording, None),
                          Carried(wording, Chart(*chart.parts[:3], ("list", 0))), Divided(wording, chart)):
                told = isinstance(value, Carried) and isinstance(value.chart, Chart) and is_just(value.chart.tree, chart.tree) and \
                    value.wording == wording
                self.assertIs(shows_carried(book, saying, by, value), told)
            for other in [book.without(at) for at in range(len(book))]:
                self.assertIs(shows_carried(other, saying, by, paper), shows_chart(other, chart.pairs, chart))

    def test_any_values(self):
        self.assertIs(shows_carried(BOOK, SAYING, SORT, Carried(yes(), CHART)), True)
        for value in ODD:
            for book in (BOOK, IMPOSSIBLE):
                for paper in (value, Carried(value, value), Divided(value, value), Divided(SCALE, value), Divided(value, SCALE)):
                    self.assertIs(shows_carried(book, SAYING, SORT, paper), False)
                self.assertIs(shows_carried(book, SAYING, SORT, Carried(SAYING, value)), value is CHART and book is BOOK)
                self.assertIs(shows_carried(book, SAYING, SORT, Carried(value, CHART)), value is SAYING and book is BOOK)


if __name__ == "__main__":
    import unittest
    unittest.main()
