"""[6], scaleborn/rounds.py and shows_fit of scaleborn/check_rounds.py."""

import itertools
import random
import time
import unittest
from math import gcd

from scaleborn.balances import Balance
from scaleborn.books import Book
from scaleborn.check_rounds import shows_fit
from scaleborn.comparisons import Comparison
from scaleborn.errors import BadBook
from scaleborn.papers import Denial, Paper
from scaleborn.ratios import Ratio
from scaleborn.rounds import Fits, Round, fit, is_possible
from scaleborn.scales import Scale
from support import BOOK, ODD, SCALE, Case, is_a

KINDS = (">", ">=", "=")


def random_book(source, things, rows, most=3):
    """A book whose rows have small numbers, often 0."""
    found = []
    while len(found) < rows:
        numbers = {thing: source.choice([0, 0, source.randint(-most, most)]) for thing in things}
        if any(numbers.values()):
            found.append(Comparison(Balance(numbers), source.choice(KINDS)))
    return Book(things, found)


def random_books(many, seed):
    source = random.Random(seed)
    for _ in range(many):
        things = "abcd"[:source.randint(1, 4)]
        yield random_book(source, list(things), source.randint(0, 6))


def is_round(book, weights):
    """Whether weights are those of a round, by adding up."""
    kinds = [row.kind for row in book.rows]
    if len(weights) != len(kinds) or any(type(weight) is not int for weight in weights):
        return False
    if any(weight < 0 and kind != "=" for weight, kind in zip(weights, kinds)):
        return False
    total = Balance({})
    for weight, row in zip(weights, book.rows):
        total = total + row.balance * weight
    return total.is_nothing and any(weight > 0 and kind == ">" for weight, kind in zip(weights, kinds))


def keeps(book, scale):
    """Whether a scale keeps all rows, by putting it in."""
    worths = [sum([row.balance.number_of(thing).top * scale[thing] for thing in book.things]) for row in book.rows]
    tests = {">": lambda worth: worth > 0, ">=": lambda worth: worth >= 0, "=": lambda worth: worth == 0}
    return all(tests[row.kind](worth) for row, worth in zip(book.rows, worths))


def worths_of(scale):
    return {thing: scale.worth(Balance.of(thing)) for thing in scale.things}


class Rounds(Case):
    def check(self, book):
        paper = fit(book)
        if isinstance(paper, Fits):
            self.assertIs(type(paper), Fits)
            self.assertEqual((paper.word, bool(paper)), ("fits", True))
            self.assertEqual(paper.scale.things, book.things)
            numbers = {thing: worth.top for thing, worth in worths_of(paper.scale).items()}
            self.assertTrue(all(worth.is_whole for worth in worths_of(paper.scale).values()))
            self.assertTrue(keeps(book, numbers))
            self.assertTrue(book.keeps(paper.scale))
        else:
            self.assertIs(type(paper), Round)
            self.assertEqual((paper.word, bool(paper)), ("round", False))
            self.assertTrue(is_round(book, paper.weights))
            self.assertEqual(gcd(*paper.weights), 1)
        self.assertIs(is_possible(book), bool(paper))
        self.assertIs(shows_fit(book, paper), True)
        self.assertEqual(fit(Book(book.things[::-1], list(book.rows))), paper)
        return paper

    def test_example(self):
        told = Book.read("a b c | a > b , b >= c")
        threes = Book.read("a b c d | a + b > c + d , c > a , d > b")
        self.assertEqual(
            [bool(fit(threes)), fit(threes).weights, is_possible(threes.without(2)), told.keeps(fit(told).scale),
             fit(Book.read("a b | a = b , a > b")).weights],
            [False, (1, 1, 1), True, True, (-1, 1)])
        self.assertEqual(
            [shows_fit(threes, Round([2, 2, 2])), shows_fit(threes, Round([1, 1, 0])),
             shows_fit(told, Fits(Scale({"a": 1, "b": 0, "c": 0}))), shows_fit(told, fit(threes))],
            [True, False, True, False])

    def test_many_books(self):
        possible = [bool(self.check(book)) for book in random_books(1500, 1)]
        self.assertGreater(possible.count(True), 300)
        self.assertGreater(possible.count(False), 300)

    def test_never_both(self):
        source = random.Random(2)
        for book in random_books(300, 3):
            paper = fit(book)
            if paper:
                for _ in range(30):
                    weights = [source.randint(-2 if row.kind == "=" else 0, 2) for row in book.rows]
                    self.assertIs(shows_fit(book, Round(weights)), False)
            else:
                for worths in itertools.product((-1, 0, 2), repeat=len(book.things)):
                    self.assertIs(shows_fit(book, Fits(Scale(dict(zip(book.things, worths))))), False)

    def test_edges(self):
        for text, possible in (("a | -", True), ("a | a > 0 , 0 >= a", False), ("a | a >= 0 , 0 >= a", True),
                               ("a | a = 0", True), ("a | a = 0 , a > 0", False), ("a | a > 0 , 0 > a", False),
                               ("a b | a > b , b > a", False), ("a b | a >= b , b >= a", True),
                               ("a b | a >= b , b >= a , a > b", False), ("a b | a > 0 , 0 > b , b >= a", False)):
            self.assertIs(bool(self.check(Book.read(text))), possible, text)
        self.assertEqual(fit(Book.read("a b | 2 a > 3 b , 3 b > 2 a")).weights, (1, 1))
        self.assertEqual(fit(Book.read("a | a = 0 , 0 > a")).weights, (1, 1))

    def test_books_without_strict_rows_are_possible(self):
        source = random.Random(5)
        for _ in range(200):
            rows = [row for row in random_book(source, list("abc"), 6).rows if row.kind != ">"]
            self.assertTrue(self.check(Book(list("abc"), rows)))

    def test_sixteen_rows(self):
        source = random.Random(6)
        for _ in range(60):
            self.check(random_book(source, list("abcdef"), 16))
            self.check(random_book(source, list("ab"), 16))

    def test_great_numbers(self):
        source = random.Random(7)
        start = time.perf_counter()
        for most in (999, 9999):
            for rows in (8, 16):
                for _ in range(60):
                    rows_left = random_book(source, list("abcdef"), rows, most)
                    paper = self.check(rows_left)
                    if paper and most == 999:
                        for worth in worths_of(paper.scale).values():
                            self.assertLess(max(abs(worth.top), worth.bottom), 10 ** 60)
        self.assertLess(time.perf_counter() - start, 60)
        huge = Book(["a", "b"], [Comparison(Balance({"a": 10 ** 200 + 1, "b": -10 ** 199}), ">"),
                                 Comparison(Balance({"a": -10 ** 200, "b": 10 ** 199}), ">")])
        self.check(huge)

    def test_near_misses(self):
        """Books that are impossible, or all but, with rows along a way of things."""
        for many in (2, 3, 4, 5, 6):
            things = list("abcdef")[:many]
            ring = [Comparison(Balance({one: 1, other: -1}), ">=") for one, other in zip(things, things[1:] + things[:1])]
            self.assertTrue(self.check(Book(things, ring)))
            for at in range(many):
                rows = [Comparison(row.balance, ">" if number == at else ">=") for number, row in enumerate(ring)]
                self.assertEqual(self.check(Book(things, rows)).weights, (1,) * many)
                self.assertTrue(self.check(Book(things, rows[1:])))

    def test_errors(self):
        for function in (fit, is_possible):
            self.refuses(BadBook, "book", function, [is_a(Book)])
        self.refuses(BadBook, "book", lambda value: shows_fit(value, fit(BOOK)), [is_a(Book)])
        self.assertIs(is_possible(book=BOOK), True)
        self.assertIs(shows_fit(value=fit(BOOK), book=BOOK), True)


class ShowsFit(Case):
    def test_any_values(self):
        for book in (BOOK, Book.read("a b | a > b , b > a")):
            for value in ODD:
                self.assertIs(shows_fit(book, value), False)
                self.assertIs(shows_fit(book, Fits(value)), value is SCALE and is_possible(book))
                self.assertIs(shows_fit(book, Round(value)), False)

    def test_bent_rounds(self):
        shown = 0
        for book in random_books(400, 11):
            paper = fit(book)
            if paper or not book.rows:
                continue
            weights = list(paper.weights)
            self.assertIs(shows_fit(book, Round(tuple(weights))), True)
            self.assertIs(shows_fit(book, Round([weight * 3 for weight in weights])), True)
            others = [weights[:-1], [*weights, 0], [*weights, 1], [0] * len(weights), [-weight for weight in weights]]
            for at in range(len(weights)):
                for value in (weights[at] + 1, weights[at] - 1, -weights[at], 0):
                    others.append([*weights[:at], value, *weights[at + 1:]])
            for other in others:
                self.assertIs(shows_fit(book, Round(other)), is_round(book, other))
                shown += is_round(book, other)
            for at in range(len(weights)):
                for value in (Ratio(weights[at]), str(weights[at]), None, [weights[at]], float(weights[at])):
                    self.assertIs(shows_fit(book, Round([*weights[:at], value, *weights[at + 1:]])), False)
                if weights[at] in (0, 1):
                    self.assertIs(shows_fit(book, Round([*weights[:at], bool(weights[at]), *weights[at + 1:]])), False)
            self.assertIs(shows_fit(book, Denial("round", weights)), False)
            self.assertIs(shows_fit(book, Fits(weights)), False)
            self.assertIs(shows_fit(book, Paper("round", weights)), False)
        self.assertGreater(shown, 0)

    def test_bent_scales(self):
        for book in random_books(400, 12):
            paper = fit(book)
            if not paper:
                continue
            worths = {thing: worth.top for thing, worth in worths_of(paper.scale).items()}
            for thing in book.things:
                for value in (worths[thing] + 1, worths[thing] - 1, -worths[thing], 0):
                    told = {**worths, thing: value}
                    self.assertIs(shows_fit(book, Fits(Scale(told))), keeps(book, told))
                less = Scale({other: worth for other, worth in worths.items() if other != thing})
                self.assertIs(shows_fit(book, Fits(less)), False)
            self.assertIs(shows_fit(book, Fits(paper.scale * Ratio(1, 3))), True)
            self.assertIs(shows_fit(book, Fits(Scale({**worths, "zz": 0}))), False)
            self.assertIs(shows_fit(book, Fits(worths)), False)
            self.assertIs(shows_fit(book, Fits(str(paper.scale))), False)
            self.assertIs(shows_fit(book, Paper("fits", paper.scale)), False)
            self.assertIs(shows_fit(book, Round(paper.scale)), False)

    def test_without_rows(self):
        book = Book(["a"])
        self.assertIs(shows_fit(book, Round([])), False)
        self.assertIs(shows_fit(book, Fits(Scale({"a": 7}))), True)
        self.assertIs(shows_fit(Book.read("a | a >= 0 , 0 >= a"), Round([1, 1])), False)

    def test_weights_below_nothing(self):
        """They add up, but only a row = may have a weight below 0."""
        for text, weights, shown in (
                ("a | a > 0 , a > 0", (1, -1), False), ("a | a > 0 , a > 0", (-1, 1), False),
                ("a | a > 0 , a >= 0", (1, -1), False), ("a | a >= 0 , a > 0", (-1, 1), False),
                ("a | a > 0 , a = 0", (1, -1), True), ("a | a > 0 , a >= 0 , 0 > a", (2, -1, 1), False),
                ("a | a > 0 , a >= 0 , 0 > a", (1, 0, 1), True), ("a | a > 0 , a = 0 , 0 > a", (1, 1, 2), True)):
            self.assertIs(shows_fit(Book.read(text), Round(weights)), shown, text)


if __name__ == "__main__":
    unittest.main()
