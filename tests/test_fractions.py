"""[10] and scaleborn/fractions.py."""

import random
from fractions import Fraction

from scaleborn.books import Book
from scaleborn.charts import charted
from scaleborn.comparisons import Comparison
from scaleborn.errors import BadBook, BadNumber, BadScale, Impossible, NotAbove, NoThing, Twice
from scaleborn.fractions import fractions_to, neighbours_of, place_at, places_in
from scaleborn.hulls import is_open
from scaleborn.ratios import Ratio
from scaleborn.ready_sorts import copies_of
from scaleborn.rounds import fit, is_possible
from scaleborn.scales import Scale
from support import BOOK, ODD, PAIR, SCALE, Case, is_a, is_written
from test_charts import IMPOSSIBLE
from test_rounds import random_book


def as_fraction(ratio):
    return None if ratio is None else Fraction(ratio.top, ratio.bottom)


def told_fractions(most):
    return sorted({Fraction(top, bottom) for top in range(1, most + 1) for bottom in range(1, most + 1)})


def told_place(ratio, most):
    """The place of a Fraction, reckoned anew."""
    fractions = told_fractions(most)
    return (max([one for one in fractions if one <= ratio], default=None),
            min([one for one in fractions if one >= ratio], default=None))


def is_thing(*names):
    return lambda value: type(value) is str and value in names


class Fractions(Case):
    def test_example(self):
        self.assertEqual([fractions_to(3), neighbours_of(Ratio(5, 4), 3), neighbours_of(4, 3), neighbours_of(-1, 3)],
                         [tuple(Ratio(top, bottom) for top, bottom in ((1, 3), (1, 2), (2, 3), (1, 1), (3, 2), (2, 1), (3, 1))),
                          (1, Ratio(3, 2)), (3, None), (None, Ratio(1, 3))])
        double = Book.read("a b | b > 0 , a > b , 2 b >= a")
        self.assertEqual([places_in(double, "a", "b", 2), place_at(Scale({"a": 3, "b": 2}), "b", "a", 3)],
                         [((1, 2), (2, 2)), (Ratio(2, 3), Ratio(2, 3))])

    def test_fractions_to(self):
        for most in (1, 2, 3, 4, 5, 7, 12, 60):
            found = fractions_to(most=most)
            self.assertIs(type(found), tuple)
            self.assertTrue(all(type(one) is Ratio for one in found))
            self.assertEqual([as_fraction(one) for one in found], told_fractions(most))
        self.assertEqual([len(fractions_to(most)) for most in (1, 2, 3, 4)], [1, 3, 7, 11])
        self.refuses(BadNumber, "most", fractions_to, [lambda value: type(value) is int and 1 <= value <= 60])
        for value in (0, -1, 61, True, Ratio(2)):
            self.raises(BadNumber, {"part": "most"}, fractions_to, value)

    def test_neighbours(self):
        source = random.Random(141)
        for most in (1, 2, 3, 4, 6):
            ratios = [Fraction(source.randint(-3, 30), source.randint(1, 12)) for _ in range(60)]
            for ratio in [*ratios, *told_fractions(most), Fraction(0), Fraction(1, most + 1), Fraction(most + 1), Fraction(-1, 9)]:
                low, high = neighbours_of(ratio=Ratio(ratio.numerator, ratio.denominator), most=most)
                self.assertEqual((as_fraction(low), as_fraction(high)), told_place(ratio, most))
                self.assertTrue(all(one is None or type(one) is Ratio for one in (low, high)))
        for ratio in (0, -5, Ratio(-1, 3), Ratio(1, 61)):
            self.assertEqual(neighbours_of(ratio, 60), (None, Ratio(1, 60)))
        self.assertEqual(neighbours_of(61, 60), (60, None))
        close = Ratio(10 ** 29 + 1, 10 ** 29)
        self.assertEqual(neighbours_of(close, 60), (1, Ratio(60, 59)))
        self.assertIs(type(neighbours_of(1, 1)), tuple)
        self.refuses(BadNumber, "ratio", lambda value: neighbours_of(value, None), [is_a(int, Ratio)])
        self.refuses(BadNumber, "most", lambda value: neighbours_of(1, value), [lambda value: type(value) is int and 1 <= value <= 60])

    def test_place_at(self):
        source = random.Random(142)
        for _ in range(200):
            worths = {thing: Ratio(source.randint(-1, 6), source.randint(1, 4)) for thing in "abc"}
            scale, most = Scale(worths), source.randint(1, 4)
            if worths["a"].sign == 1 and worths["c"].sign == 1:
                low, high = place_at(scale=scale, one="a", other="c", most=most)
                told = as_fraction(worths["a"]) / as_fraction(worths["c"])
                self.assertEqual((as_fraction(low), as_fraction(high)), told_place(told, most))
            else:
                self.raises(NotAbove, {"scale": scale}, place_at, scale, "a", "c", most)
        for text in ("a 0 b 1", "a 1 b 0", "a -1 b -1", "a 0 b 0"):
            self.raises(NotAbove, {"scale": Scale.read(text)}, place_at, Scale.read(text), "a", "b", 1)

    def test_places_in(self):
        source, lengths = random.Random(143), {}
        for _ in range(250):
            book = random_book(source, list("abc"[:source.randint(2, 3)]), source.randint(0, 3), 3)
            book = book.with_rows(Comparison.read("a > 0"), Comparison.read("b > 0"))
            if not is_possible(book):
                continue
            most = source.randint(1, 4)
            found = places_in(book=book, one="a", other="b", most=most)
            told = []
            fractions = [as_fraction(one) for one in fractions_to(most)]
            for place in all_places(fractions):
                if is_possible(with_place(book, "a", "b", place)):
                    told.append(place)
            self.assertEqual([tuple(map(as_fraction, place)) for place in found], told)
            turned = places_in(book, "b", "a", most)
            self.assertEqual(len(turned), len(found))
            lengths[len(found)] = lengths.get(len(found), 0) + 1
            # One behind another, without a gap.
            start = all_places(fractions).index(told[0])
            self.assertEqual(all_places(fractions)[start:start + len(told)], told)
            scale = fit(book).scale
            self.assertIn(place_at(scale, "a", "b", most), found)
        self.assertGreater(len(lengths), 4)
        self.assertEqual(len(places_in(Book.read("a b | a > 0 , b > 0"), "a", "b", 4)), 23)
        self.assertEqual(places_in(Book.read("a b | a = b , b > 0"), "a", "b", 1), ((1, 1),))
        self.assertEqual(places_in(Book.read("a b | a > 9 b , b > 0"), "a", "b", 4), ((4, None),))
        self.assertEqual(places_in(Book.read("a b | a > 9 b , b > 0"), "b", "a", 4), ((None, Ratio(1, 4)),))

    def test_one_place_where_two_scales_agree(self):
        book = Book(["a", "b"]).above_nothing()
        for most in (1, 2, 3, 4):
            chart = charted(book, copies_of("a", "b", most))
            places = [place_at(scale, "a", "b", most) for scale in chart.scales]
            self.assertEqual(sorted(map(str, places)), sorted(map(str, places_in(book, "a", "b", most))))

    def test_not_above(self):
        for text, thing in (("a b | -", "a"), ("a b | a >= 0 , b > 0", "a"), ("a b | a > 0", "b"), ("a b | a > 0 , b >= 0", "b"),
                            ("a b | a = 0 , b > 0", "a"), ("a b | a > 0 , a + b >= 0", "b")):
            book = Book.read(text)
            with self.assertRaises(NotAbove) as caught:
                places_in(book, "a", "b", 2)
            scale = caught.exception.scale
            self.assertTrue(book.keeps(scale) and scale.things == book.things)
            self.assertLess(scale.outcome(PAIR.read(f"{thing} : 0")), 1)
            with self.assertRaises(NotAbove) as caught:
                places_in(book, "b", "a", 2)
            self.assertTrue(book.keeps(caught.exception.scale))
        self.assertFalse(is_open(Book.read("a b | a > 0"), PAIR.read("a : 0")))

    def test_errors(self):
        self.refuses(BadScale, "scale", lambda value: place_at(value, None, None, None), [is_a(Scale)])
        self.refuses(BadBook, "book", lambda value: places_in(value, None, None, None), [is_a(Book)])
        for function, first in ((place_at, SCALE), (places_in, IMPOSSIBLE)):
            for value in ODD:
                if not is_thing("a", "b")(value):
                    for told in ((value, None, None), ("a", value, None)):
                        with self.assertRaises(NoThing) as caught:
                            function(first, *told)
                        self.assertIs(caught.exception.name, value)
            self.raises(NoThing, {"name": "z"}, function, first, "z", "y", None)
            self.refuses(BadNumber, "most", lambda value: function(first, "a", "a", value), [
                lambda value: type(value) is int and 1 <= value <= 4])
            for value in (0, 5, True, Ratio(1)):
                self.raises(BadNumber, {"part": "most"}, function, first, "a", "b", value)
            self.raises(Twice, {"name": "a"}, function, first, "a", "a", 4)
        self.raises(Impossible, {"paper": fit(IMPOSSIBLE)}, places_in, IMPOSSIBLE, "a", "b", 1)
        self.raises(Twice, {"name": "b"}, place_at, Scale({"b": 0}), "b", "b", 1)
        self.raises(Twice, {"name": "b"}, places_in, BOOK, "b", "b", 1)
        self.refuses(BadNumber, "ratio", lambda value: neighbours_of(value, 0), [is_written("0", "1", "-1"), is_a(int, Ratio)])


def all_places(fractions):
    """All places among ascending fractions."""
    found = [(None, fractions[0])]
    for at, fraction in enumerate(fractions):
        found.extend([(fraction, fraction), (fraction, fractions[at + 1] if at + 1 < len(fractions) else None)])
    return found


def with_place(book, one, other, place):
    """The book with rows that tell a place, in whole numbers."""
    low, high = place
    rows = []
    sign = "=" if low == high else ">"
    if low is not None:
        rows.append(sum_of(one, low.denominator) + f" {sign} " + sum_of(other, low.numerator))
    if high is not None and low != high:
        rows.append(sum_of(other, high.numerator) + " > " + sum_of(one, high.denominator))
    return book.with_rows(*[Comparison.read(text) for text in rows])


def sum_of(thing, number):
    return thing if number == 1 else f"{number} {thing}"


if __name__ == "__main__":
    import unittest
    unittest.main()
