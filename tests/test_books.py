"""[6], scaleborn/books.py."""

import unittest

from scaleborn.books import Book
from scaleborn.comparisons import Comparison
from scaleborn.errors import BadBook, BadNumber, BadScale, NoThing, TooMany, Twice
from scaleborn.scales import Scale
from support import BOOK, COMPARISON, ODD, Case, is_a, is_written


def rows_of(*texts):
    return [Comparison.read(text) for text in texts]


SIX = ["a", "b", "c", "d", "e", "f"]
THINGS = {"what": "things", "most": 6}
ROWS = {"what": "rows", "most": 16}


class Books(Case):
    def setUp(self):
        self.told = Book(["c", "a", "b"], rows_of("a > b", "b >= c"))
        self.text = "a b c | a > b , b >= c"

    def tearDown(self):
        self.assertEqual(str(self.told), self.text)

    def test_example(self):
        told = self.told
        self.assertEqual(
            [str(told), told.things, len(told), told.is_strict, told.keeps(Scale({"a": 3, "b": 1, "c": 1, "d": 0}))],
            ["a b c | a > b , b >= c", ("a", "b", "c"), 2, False, True])
        self.assertEqual(
            [str(told.without(1).above_nothing()), str(told.renamed({"c": "x", "a": "c"})),
             str(told.joined(Book(["d"])).with_rows(Comparison.read("d > 0")))],
            ["a b c | a > b , a > 0 , b > 0 , c > 0", "b c x | c > b , b >= x",
             "a b c d | a > b , b >= c , d > 0"])
        self.bad_text(Book.read, "a b | a > c", 5)

    def test_made(self):
        rows = rows_of("a > b", "a > b", "b = c")
        things = ["c", "b", "a"]
        book = Book(things, rows)
        self.assertEqual((book.things, book.rows, len(book)), (("a", "b", "c"), tuple(rows), 3))
        rows.append(COMPARISON)
        things.append("d")
        self.assertEqual((book.things, len(book)), (("a", "b", "c"), 3))
        self.assertEqual((len(Book(["a"])), Book(things=("a",), rows=()).rows), (0, ()))
        self.assertEqual((Book.MOST_THINGS, Book.MOST_ROWS, book.MOST_ROWS), (6, 16, 16))
        for texts, strict in (([], True), (["a > b", "a = b"], True), (["a >= b"], False), (["a > b", "b >= 0"], False)):
            self.assertIs(Book(["a", "b"], rows_of(*texts)).is_strict, strict)

    def test_errors_of_a_book(self):
        self.refuses(BadBook, "things", lambda value: Book(value, None), [is_written("['a']", "('a', 'b')")])
        self.refuses(BadBook, "rows", lambda value: Book(["a", "b"], value), [
            lambda value: isinstance(value, (list, tuple)) and (not value or value[0] is COMPARISON)])
        self.raises(BadBook, {"part": "rows"}, Book, ["a", "b"], [COMPARISON, None])
        self.raises(Twice, {"name": "b"}, Book, ["c", "b", "a", "b", "c"], None)
        self.raises(BadBook, {"part": "rows"}, Book, [*SIX, "g"], [*rows_of("x > y"), 5])
        self.raises(NoThing, {"name": "x"}, Book, [*SIX, "g"], rows_of("a > b", "a + y > x", "h > b"))
        self.raises(NoThing, {"name": "c"}, Book, ["a", "b"], rows_of("c > d"))
        self.raises(TooMany, THINGS, Book, [*SIX, "g"], rows_of("a > b") * 17)
        self.raises(TooMany, THINGS, Book, [*SIX, "g"])
        self.raises(TooMany, ROWS, Book, SIX, rows_of("a > b") * 17)
        self.assertEqual(len(Book(SIX, rows_of("a > b") * 16)), 16)

    def test_keeps(self):
        for text, kept in (("a 3 b 2 c 2", True), ("a 3 b 2 c 3", False), ("a 2 b 2 c 1", False),
                           ("a 1 b 0 c -1 z 5", True)):
            self.assertIs(self.told.keeps(Scale.read(text)), kept)
        self.assertIs(Book(["a"]).keeps(scale=Scale.read("a 0")), True)
        self.assertIs(Book(["a"], rows_of("a = 0")).keeps(Scale.read("a 0 b 1")), True)
        self.refuses(BadScale, "scale", self.told.keeps, [is_a(Scale)])
        self.raises(NoThing, {"name": "b"}, self.told.keeps, Scale.read("a 1 d 1"))
        self.raises(NoThing, {"name": "z"}, Book(["z", "a"]).keeps, Scale.read("a 1"))

    def test_with_rows(self):
        self.assertEqual(str(self.told.with_rows(*rows_of("c > 0", "a > b"))), self.text + " , c > 0 , a > b")
        self.assertEqual(self.told.with_rows(), self.told)
        self.refuses(BadBook, "rows", self.told.with_rows, [is_a(Comparison)])
        self.refuses(BadBook, "rows", lambda value: self.told.with_rows(*rows_of("x > y"), value), [is_a(Comparison)])
        self.raises(NoThing, {"name": "d"}, self.told.with_rows, *rows_of("a > b", "e > d") * 10)
        self.raises(TooMany, ROWS, self.told.with_rows, *rows_of("a > b") * 15)
        self.assertEqual(len(self.told.with_rows(*rows_of("a > b") * 14)), 16)

    def test_without(self):
        book = Book(["a"], rows_of("a > 0", "a >= 0", "a = 0", "0 > a"))
        self.assertEqual(str(book.without(2, 0, 2)), "a | a >= 0 , 0 > a")
        self.assertEqual(str(book.without(3, 2, 1, 0)), "a | -")
        self.assertEqual(book.without(), book)
        self.refuses(BadNumber, "numbers", book.without, [lambda value: type(value) is int and 0 <= value < 4])
        for numbers in ((4,), (-1,), (0, 4), (True,), ([0],)):
            self.raises(BadNumber, {"part": "numbers"}, book.without, *numbers)
        self.raises(BadNumber, {"part": "numbers"}, Book(["a"]).without, 0)

    def test_joined(self):
        other = Book(["b", "d"], rows_of("b > d", "d = 0"))
        self.assertEqual(str(self.told.joined(other)), "a b c d | a > b , b >= c , b > d , d = 0")
        self.assertEqual(str(other.joined(other=self.told)), "a b c d | b > d , d = 0 , a > b , b >= c")
        self.assertEqual(str(self.told.joined(self.told)), "a b c | a > b , b >= c , a > b , b >= c")
        self.refuses(BadBook, "other", self.told.joined, [is_a(Book)])
        nine = Book(["a", "b"], rows_of("a > b") * 9)
        self.raises(TooMany, ROWS, nine.joined, nine)
        self.raises(TooMany, THINGS, Book(SIX, nine.rows).joined, Book(["g", "a", "b"], nine.rows))
        self.assertEqual(str(other), "b d | b > d , d = 0")

    def test_with_things(self):
        self.assertEqual(str(self.told.with_things("d", "a", "d", "b0")), "a b b0 c d | a > b , b >= c")
        self.assertEqual(self.told.with_things(), self.told)
        self.refuses(BadBook, "things", self.told.with_things, [is_written("'a'")])
        self.raises(BadBook, {"part": "things"}, self.told.with_things, "d", "e", "f", "g", 5)
        self.raises(TooMany, THINGS, self.told.with_things, "d", "e", "f", "g")

    def test_above_nothing(self):
        book = Book(["b", "a"], rows_of("b > 0"))
        self.assertEqual(str(book.above_nothing()), "a b | b > 0 , a > 0 , b > 0")
        self.assertEqual(len(Book(SIX, rows_of("a > b") * 10).above_nothing()), 16)
        self.raises(TooMany, ROWS, Book(SIX, rows_of("a > b") * 11).above_nothing)

    def test_renamed(self):
        book = Book(["a", "b", "c"], rows_of("a = b", "2 c > a", "b >= 0"))
        for names, text in (({}, str(book)), ({"a": "b", "b": "a"}, "a b c | a = b , 2 c > b , a >= 0"),
                            ({"a": "z"}, "b c z | b = z , 2 c > z , b >= 0"),
                            ({"a": "b", "b": "c", "c": "a"}, "a b c | b = c , 2 a > b , c >= 0"),
                            ({"c": "c"}, str(book))):
            self.assertEqual(str(book.renamed(names)), text)
        self.refuses(BadBook, "names", book.renamed, [is_written("{}", "{'a': 'b'}")])
        for names in ({"a": "B"}, {"a": "b", 1: "c"}, {"z": None}, {"a": ["b"]}):
            self.raises(BadBook, {"part": "names"}, book.renamed, names)
        self.raises(NoThing, {"name": "x"}, book.renamed, {"y": "z", "x": "z", "a": "b"})
        self.raises(Twice, {"name": "b"}, book.renamed, {"a": "b"})
        self.raises(Twice, {"name": "x"}, book.renamed, {"c": "x", "a": "x"})
        self.raises(Twice, {"name": "a"}, book.renamed, {"c": "a"})
        self.raises(Twice, {"name": "c"}, book.renamed, {"a": "c", "b": "c"})
        self.assertEqual(str(book.renamed(names={"a": "aa"})), "aa b c | aa = b , 2 c > aa , b >= 0")

    def test_equality_and_texts(self):
        texts = ("a | -", "a b | -", "a b | a > b", "a b | a > b , a > b", "a b | a > b , b >= 0", "a b | b >= 0 , a > b",
                 "a b c d e f | a + b > c + d , 2 e = 3 f")
        for one in texts:
            self.assertEqual(str(Book.read(one)), one)
            for other in texts:
                self.assertIs(Book.read(one) == Book.read(other), one == other)
        for value in ODD:
            if "Stubborn" not in repr(value):
                self.assertIs(BOOK == value, value is BOOK)
        sixteen = "a b | " + " , ".join(["a > b"] * 16)
        self.assertEqual(str(Book.read(sixteen)), sixteen)
        for text, word in (
                (sixteen + " , a > b", 3 + 4 * 16 - 1), (sixteen + " ,", 66), (sixteen + " x", 66), ("a b c d e f g | -", 6),
                ("a b c d e f | a > g", 9), ("b a | -", 1), ("a a | -", 1), ("| -", 0), ("a", 1), ("a |", 2), ("a | - ,", 3),
                ("a | - -", 3), ("a | a > 0 ,", 6), ("a | , a > 0", 2), ("a | a > , a > 0", 4), ("a | a , a > 0", 3),
                ("a b | 2 a > 2 b", 7), ("a b | 2 a > 2 b , a > b", 7), ("a b | 2 a > 2 b +", 9),
                ("a b | 2 a > 2 b + , a > b", 9), ("a b | 2 a > 2 b + c", 9), ("a b | a > c , b >", 5), ("", 0),
                ("a b | c > a x", 3), ("a b | a > b c , a > 0", 6), ("a  | -", 1), ("A | -", 0), ("a b | a = b - a", 6)):
            self.bad_text(Book.read, text, word)


if __name__ == "__main__":
    unittest.main()
