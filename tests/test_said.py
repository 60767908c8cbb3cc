"""[13] and scaleborn/said.py."""

import itertools
import random

from scaleborn.books import Book
from scaleborn.carried import Divided, carried_by
from scaleborn.charts import charted
from scaleborn.check_charts import shows_chart
from scaleborn.check_said import shows_fewest, shows_said
from scaleborn.comparisons import Comparison
from scaleborn.errors import BadBook, BadSaying, Impossible, NotCarried, NoThing, TooMany
from scaleborn.papers import Denial
from scaleborn.rounds import fit, is_possible
from scaleborn.said import Fewest, SaidBy, fewest_said, said_by, said_saying
from scaleborn.sayings import Saying, at_least, both_of, either_of, no, of_comparison, yes
from scaleborn.sorts import Sort
from scaleborn.verdicts import are_same, truth_in
from support import BOOK, CHART, SAYING, Case, is_a, is_just
from test_charts import IMPOSSIBLE, all_lists, random_pairs, random_saying
from test_rounds import random_book

TWO, MORE, LESS, SAME = Book(["a", "b"]), Saying.read("[ a >= b ]"), Saying.read("[ b >= a ]"), Saying.read("[ a = b ]")


def every_pair(sayings):
    """The pairs of several sayings, one after another, each once."""
    found = []
    for saying in sayings:
        found.extend([pair for pair in saying.pairs if pair not in found])
    return found


def told_truths(book, told, saying):
    """The truths of told ones and of a saying at all outcome lists, by putting the outcomes in."""
    pairs = every_pair([*told, saying])
    texts = [str(pair) for pair in pairs]
    found = set()
    for outcomes in all_lists(book, pairs):
        by_text = dict(zip(texts, outcomes))
        found.add((tuple(one.truth_by(by_text) for one in told), saying.truth_by(by_text)))
    return tuple(sorted(found, reverse=True))


def says(truths, numbers):
    """Whether the told ones of these numbers say the saying."""
    by_known = {}
    for known, held in truths:
        by_known.setdefault(tuple(known[number] for number in numbers), set()).add(held)
    return all(len(held) == 1 for held in by_known.values())


def some_told(many, seed, most=3, kinds=(">", ">=", "=")):
    """Possible books, told sayings and a saying that is often made of them."""
    source = random.Random(seed)
    while many > 0:
        names = list("abc"[:source.randint(2, 3)])
        book = random_book(source, names, source.randint(0, 2), 2)
        book = Book(names, [Comparison(row.balance, source.choice(kinds)) for row in book.rows])
        pairs = random_pairs(source, names, 3)
        if not pairs or not is_possible(book):
            continue
        told = [random_saying(source, pairs, 2) for _ in range(source.randint(0, most))]
        saying = random_saying(source, pairs, 2)
        if told and source.random() < 0.7:
            one, other = source.choice(told), source.choice(told)
            saying = source.choice([~one, one & other, one | ~other, at_least(2, [*told, one]), one])
        yield book, told, saying
        many -= 1


class Said(Case):
    def check(self, book, told, saying):
        """Whether the told ones say the saying; all papers are right."""
        truths = told_truths(book, told, saying)
        said = says(truths, range(len(told)))
        paper, fewest = said_by(book=book, told=told, saying=saying), fewest_said(book=book, told=told, saying=saying)
        self.assertIs(bool(paper), said)
        self.assertIs(shows_said(book, told, saying, paper), True)
        self.assertIs(shows_fewest(book, told, saying, fewest), True)
        again = (Book(book.things[::-1], list(book.rows)), tuple(told), Saying(list(saying.parts)))
        self.assertEqual((said_by(*again), fewest_said(*again)), (paper, fewest))
        if said:
            self.check_said(book, told, saying, paper, truths)
            self.check_fewest(book, told, saying, fewest, truths)
        else:
            for value in (paper, fewest):
                self.check_divided(book, told, saying, value)
            with self.assertRaises(NotCarried) as caught:
                said_saying(book, told, saying)
            self.check_divided(book, told, saying, Divided(caught.exception.one, caught.exception.other))
        return said

    def check_said(self, book, told, saying, paper, truths):
        self.assertIs(type(paper), SaidBy)
        self.assertTrue(is_just(paper.truths, truths))
        self.assertEqual(list(paper.chart.pairs), every_pair([*told, saying]))
        self.assertIs(shows_chart(book, every_pair([*told, saying]), paper.chart), True)
        made = either_of([both_of([one if truth else ~one for one, truth in zip(told, known)])
                          for known, held in truths if held])
        self.assertEqual(said_saying(book=book, told=told, saying=saying), made)
        self.assertTrue(are_same(book, made, saying))

    def check_fewest(self, book, told, saying, paper, truths):
        self.assertIs(type(paper), Fewest)
        sets = [numbers for count in range(len(told) + 1) for numbers in itertools.combinations(range(len(told)), count)]
        numbers = [one for one in sets if says(truths, one)][0]
        self.assertTrue(is_just(paper.numbers, numbers))
        self.assertEqual(list(paper.chart.pairs), every_pair([*told, saying]))
        self.assertIs(shows_chart(book, paper.chart.pairs, paper.chart), True)
        fewer = list(itertools.combinations(range(len(told)), len(numbers) - 1)) if numbers else []
        self.assertEqual(len(paper.parted), len(fewer))
        held = paper.chart.truths(saying)
        for some, (kept, broken) in zip(fewer, paper.parted):
            self.assertTrue(held[kept] and not held[broken])
            for number in some:
                column = paper.chart.truths(told[number])
                self.assertEqual(column[kept], column[broken])

    def check_divided(self, book, told, saying, paper):
        self.assertIs(type(paper), Divided)
        for scale in (paper.one, paper.other):
            self.assertEqual(scale.things, book.things)
            self.assertTrue(book.keeps(scale))
        self.assertEqual([one.holds(paper.one) for one in told], [one.holds(paper.other) for one in told])
        self.assertTrue(saying.holds(paper.one) and not saying.holds(paper.other))

    def test_example(self):
        self.assertEqual([said_by(TWO, [MORE, LESS], SAME).truths, said_by(TWO, [], MORE | LESS).truths],
                         [(((True, True), True), ((True, False), False), ((False, True), False)), (((), True),)])
        self.assertEqual([bool(said_by(TWO, [MORE], SAME)), said_saying(TWO, [MORE, LESS], ~SAME) == either_of(
            [both_of([MORE, ~LESS]), both_of([~MORE, LESS])])], [False, True])
        self.assertEqual(
            [fewest_said(TWO, [MORE, LESS], SAME).numbers, fewest_said(TWO, [MORE, LESS, SAME], SAME).numbers,
             fewest_said(TWO, [LESS], MORE | LESS).numbers], [(0, 1), (2,), ()])
        self.raises(TooMany, {"what": "told", "most": 4}, said_saying, TWO, [MORE] * 5, SAME)

    def test_papers(self):
        paper = SaidBy(chart=CHART, truths=[[[True], False]])
        self.assertEqual((paper.word, bool(paper), paper.parts), ("saidby", True, ((((True,), False),), CHART)))
        self.assertEqual((paper.truths, paper.chart), paper.parts)
        paper = Fewest(parted=[[1, 2]], chart=CHART, numbers=[0])
        self.assertEqual((paper.word, bool(paper), paper.parts), ("fewest", True, ((0,), CHART, ((1, 2),))))
        self.assertEqual((paper.numbers, paper.chart, paper.parted), paper.parts)
        self.assertNotIsInstance(paper, Denial)

    def test_many(self):
        counts = {True: 0, False: 0}
        for book, told, saying in some_told(160, 311):
            counts[self.check(book, told, saying)] += 1
        self.assertGreater(min(counts.values()), 25)

    def test_four_told(self):
        counts = {}
        for book, told, saying in some_told(160, 312, 4):
            if len(told) == 4:
                said = self.check(book, told, saying)
                counts[said] = counts.get(said, 0) + 1
        self.assertGreater(min(counts.values()), 2)
        # Just all four do.
        four = [of_comparison(Comparison.read(text)) for text in ("a > b", "b > a", "b > c", "c > b")]
        book = Book(["a", "b", "c"])
        saying = Saying.read("( and [ a = b ] [ b = c ] )")
        self.assertTrue(self.check(book, four, saying))
        self.assertEqual(fewest_said(book, four, saying).numbers, (0, 1, 2, 3))
        self.assertEqual(len(fewest_said(book, four, saying).parted), 4)

    def test_none_told_and_one_twice(self):
        for book, _, saying in some_told(40, 313):
            said = self.check(book, [], saying)
            self.assertIs(said, truth_in(book, saying) is not None)
            if said:
                self.assertEqual(said_saying(book, [], saying), yes() if truth_in(book, saying) else no())
                self.assertEqual(fewest_said(book, [], saying).parted, ())
            self.assertTrue(self.check(book, [saying, saying], saying))
            self.assertEqual(fewest_said(book, [saying, saying], saying).numbers, () if said else (0,))
            self.assertTrue(self.check(book, [~saying], saying))

    def test_facts(self):
        source = random.Random(314)
        for book, told, saying in some_told(60, 315):
            said = bool(said_by(book, told, saying))
            for one in told:
                self.assertTrue(said_by(book, told, one))
            more = random_saying(source, saying.pairs, 1)
            if said:
                self.assertTrue(said_by(book, told, ~saying))
                self.assertTrue(said_by(book, [*told, more], saying))
                for one in told:
                    for made in (saying & one, one | saying, at_least(2, [saying, one, one])):
                        self.assertTrue(said_by(book, told, made))
                further = book.with_rows(source.choice(saying.comparisons)) if saying.comparisons else book
                if is_possible(further):
                    self.assertTrue(said_by(further, told, saying))
            if saying.pairs:
                chosen = [pair for pair in saying.pairs if source.random() < 0.7]
                told = [of_comparison(Comparison(pair.balance, kind)) for pair in chosen[:2] for kind in (">", "=")]
                self.assertIs(bool(said_by(book, told, saying)), bool(carried_by(book, saying, Sort(chosen[:2]))))

    def test_said_through_others(self):
        some = 0
        for book, told, saying in some_told(60, 316):
            if not told or not said_by(book, told, saying):
                continue
            # What says each told one says the saying.
            deeper = [one.comparisons for one in told]
            deeper = [of_comparison(comparison) for row in deeper for comparison in row]
            deeper = list({str(one): one for one in deeper}.values())
            if len(deeper) <= 4:
                self.assertTrue(all(said_by(book, deeper, one) for one in told))
                self.assertTrue(said_by(book, deeper, saying))
                some += 1
        self.assertGreater(some, 10)

    def test_more_can_become_so(self):
        told, saying = [Saying.read("[ b > c ]")], Saying.read("[ a > c ]")
        self.assertFalse(said_by(Book(["a", "b", "c"]), told, saying))
        self.assertTrue(self.check(Book.read("a b c | a = b"), told, saying))

    def test_what_is_passed_stays(self):
        told = [MORE, LESS]
        for function in (said_by, said_saying, fewest_said):
            function(TWO, told, SAME)
        self.assertEqual(told, [MORE, LESS])

    def test_errors(self):
        for function in (said_by, said_saying, fewest_said):
            self.refuses(BadBook, "book", lambda value: function(value, None, None), [is_a(Book)])
            self.refuses(BadSaying, "told", lambda value: function(IMPOSSIBLE, value, None),
                         [lambda value: isinstance(value, (list, tuple)) and all(isinstance(one, Saying) for one in value)])
            self.refuses(BadSaying, "saying", lambda value: function(IMPOSSIBLE, [Saying.read("[ z > 0 ]")], value), [is_a(Saying)])
            far = Saying.read("( and [ d > a ] [ a + c > b ] )")
            self.raises(BadSaying, {"part": "told"}, function, TWO, SAYING, SAYING)
            self.raises(BadSaying, {"part": "told"}, function, TWO, [SAYING, BOOK], SAYING)
            self.raises(NoThing, {"name": "c"}, function, IMPOSSIBLE, [SAYING, far, Saying.read("[ b > z ]")], SAYING)
            self.raises(NoThing, {"name": "c"}, function, IMPOSSIBLE, [SAYING] * 5, far)
            self.raises(Impossible, {"paper": fit(IMPOSSIBLE)}, function, IMPOSSIBLE, [SAYING] * 5, SAYING)
            many = both_of([of_comparison(Comparison.read(f"a > {count} b")) for count in range(2, 22)])
            self.raises(TooMany, {"what": "told", "most": 4}, function, BOOK, [many] * 5, MORE)
            self.raises(TooMany, {"what": "pairs", "most": 20}, function, BOOK, [many, many], MORE)
            texts = ("a + 3 b + 2 u : 0,2 a : b,a + 2 u : 3 b,2 a : u,2 a + u : 3 b,3 b : u,a : 2 b,a + b + 2 u : 0,"
                     "3 a : 2 u,2 a + u : b,a + 2 b : 0,a + u : b")
            wide = [Saying.read("[ " + text.replace(" :", " >") + " ]") for text in texts.split(",")]
            self.raises(TooMany, {"what": "lists", "most": 250}, function, Book.read("a b u | u > 0"),
                        [both_of(wide[:6]), both_of(wide[4:9])], both_of(wide[9:]))

    def test_edges_of_the_bounds(self):
        # 20 pairs in all, and one more told one than may be.
        book = Book.read("a b | a > 50 b , b > 0")
        ladder = [of_comparison(Comparison.read(f"a > {count} b")) for count in range(2, 22)]
        self.assertEqual(said_by(book, [both_of(ladder[:10]), both_of(ladder[5:])], ladder[0]).truths, (((True, True), True),))
        self.assertEqual(said_by(TWO, [MORE, MORE, LESS, LESS], SAME).truths[1], ((True, True, False, False), False))
        self.assertEqual(fewest_said(TWO, [MORE, MORE, LESS, LESS], SAME).numbers, (0, 2))
        self.assertEqual(len(charted(book, both_of(ladder).pairs)), 1)
        self.assertEqual(str(said_by(TWO, [MORE], SAME).one.outcomes(MORE.pairs)), "(0,)")


if __name__ == "__main__":
    import unittest
    unittest.main()
