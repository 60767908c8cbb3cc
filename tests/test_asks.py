"""[16] and scaleborn/asks.py."""

import random

from scaleborn.asks import Asking, asked, settled_at
from scaleborn.books import Book
from scaleborn.carried import Divided, carried_by
from scaleborn.charts import charted
from scaleborn.check_asks import shows_asked
from scaleborn.check_charts import shows_chart
from scaleborn.comparisons import Comparison, Pair
from scaleborn.errors import BadBook, BadNumber, BadSaying, BadSort, Impossible, NoThing, TooMany
from scaleborn.facets import facets
from scaleborn.hulls import are_one
from scaleborn.papers import Denial
from scaleborn.ready_sayings import greatest_is
from scaleborn.ready_sorts import heaps_of, order_of
from scaleborn.rounds import fit, is_possible
from scaleborn.sayings import Saying, both_of, of_comparison, yes
from scaleborn.sorts import Sort
from scaleborn.verdicts import truth_in
from support import BOOK, CHART, SAYING, SORT, Case, is_a
from test_charts import IMPOSSIBLE, all_lists, random_pairs, random_saying
from test_facets import rich_saying
from test_rounds import KINDS, random_book

FREE = Book(["a", "b", "c"])
BY_ORDER = order_of(["a", "b", "c"])
TOP = greatest_is("a", ["b", "c"])


def told_pairs(saying, by):
    return [*by, *[pair for pair in saying.pairs if pair not in list(by)]]


def full_truths(book, saying, by):
    """The truths that each full list comes with, from all outcome lists."""
    pairs = told_pairs(saying, by)
    texts = [str(pair) for pair in pairs]
    found = {}
    for outcomes in all_lists(book, pairs):
        found.setdefault(outcomes[:len(by)], set()).add(saying.truth_by(dict(zip(texts, outcomes))))
    return found


def fewest_askings(truths, many):
    """How many askings settle it, by playing through all pairs and outcomes."""
    known = {}

    def play(told):
        if told not in known:
            left = [full for full in truths if all(full[number] == outcome for number, outcome in told)]
            if len({truths[full] for full in left}) < 2:
                known[told] = 0
            else:
                asked_numbers = [number for number, _ in told]
                known[told] = 1 + min(max(play(tuple(sorted([*told, (number, outcome)]))) for outcome in (1, 0, -1))
                                      for number in range(many) if number not in asked_numbers)
        return known[told]
    return play(())


def walked(tree, full):
    """Where a tree leads, and the pairs that are asked on the way."""
    numbers = []
    while isinstance(tree, tuple):
        numbers.append(tree[0])
        tree = tree[{1: 1, 0: 2, -1: 3}[full[tree[0]]]]
    return tree, numbers


def length_of(tree):
    return 1 + max(length_of(further) for further in tree[1:]) if isinstance(tree, tuple) else 0


def nodes_of(tree, told=()):
    """Each tree with the outcomes that lead to it."""
    yield tree, told
    if isinstance(tree, tuple):
        for further, outcome in zip(tree[1:], (1, 0, -1)):
            yield from nodes_of(further, (*told, (tree[0], outcome)))


def is_stall(stall, length, told, many, lists, truths):
    """Whether a value is a stall of this length behind these outcomes."""
    if length == 0:
        kept, broken = stall
        return truths[kept] and not truths[broken] and all(
            lists[at][number] == outcome for at in stall for number, outcome in told.items())
    waiting = [number for number in range(many) if number not in told]
    if not waiting or [triple[0] for triple in stall] != waiting:
        return False
    return all(is_stall(further, length - 1, {**told, number: outcome}, many, lists, truths) for number, outcome, further in stall)


def some_asked(many, seed, pairs=4, things="abc", kinds=KINDS):
    """Possible books, sayings, and sorts that often carry them."""
    source = random.Random(seed)
    while many > 0:
        names = list(things[:source.randint(2, len(things))])
        book = random_book(source, names, source.randint(0, 2), 2)
        book = Book(names, [Comparison(row.balance, source.choice(kinds)) for row in book.rows])
        some = random_pairs(source, names, source.randint(1, pairs))
        if not is_possible(book) or not some:
            continue
        saying = source.choice([random_saying, rich_saying])(source, source.sample(some, source.randint(1, len(some))))
        by = list(some) if source.random() < 0.8 else some[1:]
        source.shuffle(by)
        yield book, saying, Sort(by)
        many -= 1


class Asks(Case):
    def check(self, book, saying, by):
        paper = asked(book=book, saying=saying, by=by)
        self.assertIs(shows_asked(book, saying, by, paper), True)
        self.assertEqual(asked(Book(book.things[::-1], list(book.rows)), Saying(list(saying.parts)), Sort(list(by))), paper)
        truths = full_truths(book, saying, by)
        if any(len(told) > 1 for told in truths.values()):
            self.assertIs(type(paper), Divided)
            self.assertTrue(book.keeps(paper.one) and book.keeps(paper.other))
            self.assertEqual(paper.one.outcomes(by), paper.other.outcomes(by))
            self.assertTrue(saying.holds(paper.one) and not saying.holds(paper.other))
            return None
        self.assertIs(type(paper), Asking)
        self.assertTrue(carried_by(book, saying, by))
        truths = {full: told.pop() for full, told in truths.items()}
        self.assertEqual(paper.number, fewest_askings(truths, len(by)))
        self.assertIs(shows_chart(book, told_pairs(saying, by), paper.chart), True)
        self.check_tree(paper, truths)
        lists = [told[:len(by)] for told in paper.chart.lists]
        if paper.number == 0:
            self.assertIsNone(paper.fewer)
        else:
            self.assertTrue(is_stall(paper.fewer, paper.number - 1, {}, len(by), lists, paper.chart.truths(saying)))
        self.assertIs(paper.number == 0, truth_in(book, saying) is not None)
        return paper

    def check_tree(self, paper, truths):
        """The tree leads each full list to its truth, and asks nothing that is settled."""
        self.assertEqual(length_of(paper.tree), paper.number)
        for full, truth in truths.items():
            found, numbers = walked(paper.tree, full)
            self.assertIs(found, truth)
            self.assertIs(settled_at(paper.tree, full), truth)
            self.assertEqual(len(set(numbers)), len(numbers))
        for tree, told in nodes_of(paper.tree):
            left = [full for full in truths if all(full[number] == outcome for number, outcome in told)]
            self.assertIs(tree is None, not left)
            if isinstance(tree, tuple):
                self.assertEqual(len(tree), 4)
                self.assertGreater(len({full[tree[0]] for full in left}), 1)

    def test_example(self):
        plan = asked(FREE, TOP, BY_ORDER)
        tree = (0, (1, True, True, False), (1, True, True, False), False)
        self.assertEqual(
            [plan.number, str(BY_ORDER), len(plan.chart), plan.chart.lists[4], plan.chart.lists[8], settled_at(tree, (0, -1, -1))],
            [2, "a : b , a : c , b : c", 13, (1, -1, -1), (-1, 1, 1), False])
        self.assertEqual(
            [asked(FREE, Saying.read("[ a + b > 2 c ]"), BY_ORDER).word, asked(FREE, yes(), BY_ORDER).parts[:3],
             asked(FREE, Saying.read("[ b > c ]"), BY_ORDER).tree], ["divided", (0, True, None), (2, True, False, False)])

    def test_papers(self):
        paper = Asking(chart=CHART, fewer=[0, 1], tree=[0, True, False, None], number=1)
        self.assertEqual((paper.word, bool(paper), paper.parts), ("asking", True, (1, (0, True, False, None), (0, 1), CHART)))
        self.assertEqual((paper.number, paper.tree, paper.fewer, paper.chart), paper.parts)
        self.assertNotIsInstance(paper, Denial)

    def test_many(self):
        counts = {}
        for book, saying, by in some_asked(420, 421):
            paper = self.check(book, saying, by)
            key = None if paper is None else paper.number
            counts[key] = counts.get(key, 0) + 1
        self.assertGreater(min(counts.get(key, 0) for key in (None, 0, 1, 2, 3)), 4, counts)

    def test_facts(self):
        source, more_rows = random.Random(422), 0
        for book, saying, by in some_asked(120, 423):
            paper = asked(book, saying, by)
            if not paper or not by.pairs:
                continue
            asked_pairs = {tree[0] for tree, _ in nodes_of(paper.tree) if isinstance(tree, tuple)}
            for facet in facets(book, saying):
                self.assertTrue(any(are_one(book, facet.pair.balance, by.pairs[number].balance) for number in asked_pairs))
            further = book.with_rows(Comparison(source.choice(by.pairs).balance, source.choice(KINDS)))
            if is_possible(further):
                self.assertLessEqual(asked(further, saying, by).number, paper.number)
                more_rows += 1
            wider = by + Sort(random_pairs(source, book.things, 1))
            self.assertLessEqual(asked(book, saying, wider).number, paper.number)
            names = dict(zip(book.things, ["q", "d", "x"]))
            renamed = Sort([Pair(pair.balance.renamed(names)) for pair in by])
            self.assertEqual(asked(book.renamed(names), saying.renamed(names), renamed).number, paper.number)
        self.assertGreater(more_rows, 30)

    def test_three_facets_two_askings(self):
        book = Book(list("abcdef"))
        saying = Saying.read("( or ( and [ a > b ] [ c > d ] ) ( and ( not [ a > b ] ) [ e > f ] ) )")
        paper = asked(book, saying, Sort(saying.pairs))
        self.assertEqual((paper.number, len(facets(book, saying))), (2, 3))

    def test_no_pairs(self):
        empty = Sort([])
        self.assertEqual(self.check(FREE, yes(), empty).parts[:3], (0, True, None))
        self.assertEqual(self.check(FREE, ~yes(), empty).parts[:3], (0, False, None))
        self.assertEqual(self.check(BOOK, SAYING, empty).parts[:3], (0, True, None))
        self.assertEqual(self.check(BOOK, ~SAYING, SORT).parts[:3], (0, False, None))
        self.assertIsNone(self.check(Book(["a", "b"]), SAYING, empty))

    def test_six_pairs(self):
        book = Book(list("abcd"))
        by = order_of(book.things)
        self.assertEqual(len(by), 6)
        for saying, number in ((greatest_is("a", book.things), 3), (both_of([greatest_is("a", book.things)]), 3)):
            paper = asked(book, saying, by)
            self.assertEqual(paper.number, number)
            self.assertIs(shows_asked(book, saying, by, paper), True)
        two = Book(["a", "b"]).above_nothing()
        steps = [Pair.read(text) for text in ("a : b", "a : 2 b", "2 a : b", "a : 3 b", "3 a : b", "2 a : 3 b")]
        odd = Saying.read("( some 2 [ a > b ] [ a = 2 b ] [ b > 2 a ] [ 3 a > b ] [ 2 a >= 3 b ] )")
        paper = self.check(two, odd, Sort(steps))
        self.assertGreater(paper.number, 1)
        free = [Pair.read(text) for text in ("a : 0", "b : 0", "c : 0")]
        every = both_of([of_comparison(Comparison(pair.balance, ">")) for pair in free])
        self.assertEqual(self.check(FREE, every, Sort(free)).number, 3)

    def test_settled_at(self):
        tree = [1, [0, True, [2, True, False, None], False], None, False]
        for outcomes, found in (([1, 1], True), ((0, 1, 1), True), ((0, 1, 0), False), ((0, 1, -1), None), ((-1, 1), False),
                                ((1, 0), None), ((1, -1), False), ((0, -1, 1, 1, 1), False)):
            self.assertIs(settled_at(tree=tree, outcomes=outcomes), found)
            self.assertIs(settled_at((tree[0], tuple(tree[1]), None, False), list(outcomes)), found)
        for leaf in (True, False, None):
            self.assertIs(settled_at(leaf, []), leaf)
        for outcomes in ([], [1], [0, 1], (0, 1)):
            self.raises(BadNumber, {"part": "outcomes"}, settled_at, tree, outcomes)
        for value in (None, 1, "1", {}, {1: 1}, [2], [-2], [1, 1, None], [True, 1, 1], [1, False], (1, 1, 2), [1, 1, "1"], [1.0, 1]):
            self.raises(BadNumber, {"part": "outcomes"}, settled_at, tree, value)
            self.raises(BadNumber, {"part": "outcomes"}, settled_at, True, value)

    def test_errors(self):
        for function in (asked, lambda *told: shows_asked(*told, None)):
            self.refuses(BadBook, "book", lambda value: function(value, None, None), [is_a(Book)])
            self.refuses(BadSaying, "saying", lambda value: function(IMPOSSIBLE, value, None), [is_a(Saying)])
            self.refuses(BadSort, "by", lambda value: function(IMPOSSIBLE, Saying.read("[ z > 0 ]"), value), [is_a(Sort)])
            self.raises(NoThing, {"name": "z"}, function, IMPOSSIBLE, Saying.read("[ z > 0 ]"), Sort.read("c : d"))
            self.raises(NoThing, {"name": "c"}, function, IMPOSSIBLE, SAYING, Sort.read("d : e , c : d"))
        ladder = [Pair.read(f"a : {count} b") for count in range(2, 23)]
        seven = Sort(ladder[:7])
        self.raises(Impossible, {"paper": fit(IMPOSSIBLE)}, asked, IMPOSSIBLE, SAYING, seven)
        self.raises(TooMany, {"what": "asked", "most": 6}, asked, BOOK, both_of([of_comparison(Comparison(pair.balance, ">")) for pair in ladder]), seven)
        many = both_of([of_comparison(Comparison(pair.balance, ">")) for pair in ladder[:15]])
        self.raises(TooMany, {"what": "pairs", "most": 20}, asked, BOOK, many, Sort([Pair.read(f"{count} a : b") for count in range(2, 8)]))
        wide = both_of([of_comparison(Comparison(pair.balance, ">")) for pair in heaps_of(["a", "b", "c"])])
        self.raises(TooMany, {"what": "lists", "most": 250}, asked, FREE, wide, BY_ORDER)
        self.assertEqual(len(charted(FREE, BY_ORDER)), 13)


if __name__ == "__main__":
    import unittest
    unittest.main()
