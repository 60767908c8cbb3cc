"""[17] and scaleborn/live.py."""

import random
import time

from scaleborn.books import Book
from scaleborn.comparisons import Comparison, Pair
from scaleborn.errors import (
    BadBook, BadComparison, BadLive, BadNumber, BadSaying, Impossible, NoName, Nothing, NoThing, ScaleError, TooMany)
from scaleborn.live import Live
from scaleborn.ready_sayings import greatest_is, means
from scaleborn.ready_sorts import heaps_of
from scaleborn.rounds import fit, is_possible
from scaleborn.sayings import Saying, both_of, of_comparison, yes
from scaleborn.verdicts import truth_in
from support import BOOK, COMPARISON, ODD, SAYING, Case, is_a
from test_charts import IMPOSSIBLE, random_pairs, random_saying
from test_rounds import KINDS, random_book

FREE = Book(["a", "b", "c"])


class Model:
    """A plain list of rows, of deeds and of sayings, of which all is reckoned anew."""

    def __init__(self, book):
        self.things, self.rows = book.things, list(book.rows)
        self.past, self.undone, self.names, self.sayings = [], [], [], {}

    def book(self):
        return Book(self.things, self.rows)

    def words(self):
        return tuple((name, truth_in(self.book(), self.sayings[name])) for name in self.names)

    def go(self, rows):
        old = self.words()
        self.rows = list(rows)
        return tuple(name for (name, one), (_, other) in zip(old, self.words()) if one is not other)

    def deed(self, rows):
        self.past.append(list(self.rows))
        self.undone = []
        return self.go(rows)

    def back(self):
        self.undone.append(list(self.rows))
        return self.go(self.past.pop())

    def again(self):
        self.past.append(list(self.rows))
        return self.go(self.undone.pop())

    def watch(self, name, saying):
        if name not in self.names:
            self.names.append(name)
        self.sayings[name] = saying
        return truth_in(self.book(), saying)


def state_of(live):
    """All that can be seen of a live book, and what can be undone and done again."""
    behind, ahead = [], []
    for found, deed in ((behind, "back"), (ahead, "again")):
        twin = live.twin()
        while not found or found[-1] not in ("Nothing", "TooMany"):
            try:
                getattr(twin, deed)()
                found.append(str(twin.book))
            except (Nothing, TooMany) as error:
                found.append(type(error).__name__)
    return (str(live.book), str(live.first), live.words, live.many, behind, ahead,
            [str(live.saying_of(name)) for name, _ in live.words])


class Lives(Case):
    def stays(self, live, error, fields, function, *told):
        """The call raises this error and changes nothing."""
        before = state_of(live)
        self.raises(error, fields, function, *told)
        self.assertEqual(state_of(live), before)

    def test_example(self):
        live = Live(Book(["a", "b", "c"]))
        self.assertEqual(
            [live.watch("top", greatest_is("a", ["a", "b", "c"])), live.watch("mean", means(["a", "b"], ">", ["c"])),
             live.tell(Comparison.read("a > b")), live.tell(Comparison.read("b > c"))], [None, None, (), ("top", "mean")])
        self.assertEqual(
            [live.words, live.take(0), live.words, live.back(), live.back(), live.back(), live.many, live.again()],
            [(("top", True), ("mean", True)), ("top", "mean"), (("top", None), ("mean", None)), ("top", "mean"),
             ("top", "mean"), (), 0, ()])
        with self.assertRaises(Impossible):
            live.tell(Comparison.read("b > a"))

    def check(self, live, model):
        self.assertEqual(live.book, model.book())
        self.assertEqual(live.words, model.words())
        self.assertIs(type(live.words), tuple)
        self.assertEqual((live.many, len(live.book)), (len(model.past), len(model.rows)))
        self.assertEqual([live.saying_of(name) for name in model.names], [model.sayings[name] for name in model.names])

    def step(self, source, live, model):
        """One deed, right or wrong; a word for it."""
        deed = source.choice(["tell", "tell", "tell", "take", "back", "back", "again", "again", "watch", "unwatch"])
        if deed == "tell":
            row = source.choice([*random_book(source, model.things, 1, 1).rows, *model.rows[:1]])
            if is_possible(Book(model.things, [*model.rows, row])) and len(model.rows) < 16:
                self.assertEqual(live.tell(row=row), model.deed([*model.rows, row]))
                return "tell"
            paper = fit(Book(model.things, [*model.rows, row]))
            self.stays(live, Impossible, {"paper": paper}, live.tell, row)
            return "refused"
        if deed == "take" and model.rows:
            number = source.randrange(len(model.rows))
            self.assertEqual(live.take(number=number), model.deed(model.rows[:number] + model.rows[number + 1:]))
            return "take"
        if deed in ("back", "again"):
            deeds = model.past if deed == "back" else model.undone
            if not deeds:
                self.stays(live, Nothing, {}, live.back if deed == "back" else live.again)
                return "no " + deed
            found, told = (live.back(), model.back()) if deed == "back" else (live.again(), model.again())
            self.assertEqual(found, told)
            self.assertIs(type(found), tuple)
            return deed
        if deed == "watch":
            saying = random_saying(source, random_pairs(source, model.things, 2, 1) or [Pair.read("a : 0")], 2)
            name = source.choice(["u", "v", "w", "x"])
            self.assertIs(live.watch(name=name, saying=saying), model.watch(name, saying))
            return "watch"
        if deed == "unwatch" and model.names:
            name = source.choice(model.names)
            self.assertEqual(live.unwatch(name=name), model.sayings[name])
            model.names.remove(name)
            return "unwatch"
        return "none"

    def test_long_runs(self):
        counts = {}
        for seed in range(16):
            source = random.Random(450 + seed)
            names = list("abc"[:source.randint(2, 3)])
            book = random_book(source, names, source.randint(0, 2), 1)
            book = book if is_possible(book) else Book(names)
            live, model = Live(book), Model(book)
            for _ in range(70):
                word = self.step(source, live, model)
                counts[word] = counts.get(word, 0) + 1
                self.check(live, model)
                self.assertEqual(live.first, book)
        self.assertEqual(len(counts), 10)
        self.assertGreater(min(counts.values()), 5)

    def test_words_turn_as_told(self):
        live = Live(FREE)
        live.watch("yes", yes())
        live.watch("ab", Saying.read("[ a > b ]"))
        live.watch("ba", Saying.read("[ b > a ]"))
        self.assertEqual(live.words, (("yes", True), ("ab", None), ("ba", None)))
        self.assertEqual(live.tell(Comparison.read("a > b")), ("ab", "ba"))
        self.assertEqual(live.words, (("yes", True), ("ab", True), ("ba", False)))
        self.assertEqual(live.tell(Comparison.read("a > b")), ())
        self.assertEqual(live.take(0), ())
        self.assertEqual(live.take(0), ("ab", "ba"))
        self.assertEqual([str(live.book), live.back(), live.back(), str(live.book)],
                         ["a b c | -", ("ab", "ba"), (), "a b c | a > b , a > b"])

    def test_a_row_taken_out_comes_back_to_its_place(self):
        live = Live(Book.read("a b c | a > b , b > c , a > 0"))
        live.take(1)
        self.assertEqual(str(live.book), "a b c | a > b , a > 0")
        live.tell(Comparison.read("c > 0"))
        live.back()
        live.back()
        self.assertEqual(str(live.book), "a b c | a > b , b > c , a > 0")
        live.again()
        live.again()
        self.assertEqual(str(live.book), "a b c | a > b , a > 0 , c > 0")
        self.assertEqual((live.many, str(live.first)), (2, "a b c | a > b , b > c , a > 0"))

    def test_what_can_be_done_again(self):
        live = Live(FREE)
        for text in ("a > b", "b > c", "c > 0"):
            live.tell(Comparison.read(text))
        live.back()
        live.back()
        # To watch, and what is refused, leaves what can be done again.
        live.watch("top", greatest_is("a", ["a", "b", "c"]))
        self.raises(Impossible, {"paper": fit(Book.read("a b c | a > b , b > a"))}, live.tell, Comparison.read("b > a"))
        self.raises(BadNumber, {"part": "number"}, live.take, 1)
        self.assertEqual(live.again(), ("top",))
        live.unwatch("top")
        self.assertEqual((live.again(), live.many, str(live.book)), ((), 3, "a b c | a > b , b > c , c > 0"))
        live.back()
        live.take(0)
        self.raises(Nothing, {}, live.again)
        self.assertEqual(live.back(), ())
        live.back()
        live.tell(Comparison.read("c > b"))
        self.raises(Nothing, {}, live.again)
        self.assertEqual(str(live.book), "a b c | a > b , c > b")

    def test_names(self):
        live = Live(BOOK)
        for name in ("c", "a", "b"):
            live.watch(name, SAYING)
        self.assertIs(live.watch("a", ~SAYING), False)
        self.assertEqual(live.words, (("c", True), ("a", False), ("b", True)))
        self.assertEqual((live.saying_of("a"), live.saying_of(name="c")), (~SAYING, SAYING))
        self.assertEqual(live.unwatch("c"), SAYING)
        live.watch("c", SAYING)
        self.assertEqual([name for name, _ in live.words], ["a", "b", "c"])
        for value in [*ODD, "c", "z"]:
            told = (live.saying_of, live.unwatch)
            if not (isinstance(value, str) and value in ("a", "b", "c")):
                for function in told:
                    with self.assertRaises(NoName) as caught:
                        function(value)
                    self.assertIs(caught.exception.name, value)
        self.assertEqual(len(live.words), 3)

    def test_twin_and_equality(self):
        live = Live(FREE)
        live.watch("top", SAYING)
        live.tell(COMPARISON)
        live.tell(Comparison.read("b > c"))
        live.back()
        twin = live.twin()
        self.assertIs(type(twin), Live)
        self.assertEqual((twin, state_of(twin)), (live, state_of(live)))
        self.assertEqual((twin.first, twin.many), (live.first, 1))
        before = state_of(live)
        twin.again()
        self.assertNotEqual(twin, live)
        twin.back()
        self.assertEqual(twin, live)
        twin.watch("more", yes())
        self.assertNotEqual(twin, live)
        twin.unwatch("more")
        self.assertEqual(twin, live)
        twin.unwatch("top")
        self.assertNotEqual(twin, live)
        twin.tell(Comparison.read("c > 0"))
        twin.back()
        twin.back()
        self.assertEqual(state_of(live), before)
        live.again()
        self.assertEqual(twin.many, 0)
        # The deeds behind equal books may differ, the order of the names may not.
        one, other = Live(BOOK), Live(Book(["a", "b"]))
        other.tell(COMPARISON)
        self.assertIs(one == other, True)
        for name in ("u", "v"):
            one.watch(name, SAYING)
        for name in ("v", "u"):
            other.watch(name, SAYING)
        self.assertIs(one == other, False)
        other.watch("v", ~SAYING)
        self.assertIs(one == other, False)
        for value in (None, BOOK, FREE, 1, (), "a"):
            self.assertIs(one == value, False)
            self.assertIs(one != value, True)

    def test_no_saying_may_be_too_wide(self):
        wide = both_of([of_comparison(Comparison(pair.balance, ">")) for pair in heaps_of(["a", "b", "c"])])
        above = [Comparison.read(f"{thing} > 0") for thing in "abc"]
        lists = {"what": "lists", "most": 250}
        live = Live(Book(["a", "b", "c"], above[:1]))
        self.assertIs(live.watch("low", SAYING), None)
        live.watch("wide", wide)
        self.stays(live, TooMany, lists, live.take, 0)
        live.unwatch("wide")
        live.take(0)
        self.stays(live, TooMany, lists, live.watch, "wide", wide)
        live.back()
        live.watch("wide", wide)
        # What is watched may be too wide behind the deed that is done again, or undone.
        self.stays(live, TooMany, lists, live.again)
        free = Live(FREE)
        free.tell(above[0])
        free.watch("wide", wide)
        self.stays(free, TooMany, lists, free.back)
        free.unwatch("wide")
        free.back()
        self.assertEqual(free.many, 0)

    def test_twelve_watched(self):
        live = Live(BOOK)
        for number in range(12):
            live.watch(f"n{number}", SAYING)
        self.stays(live, TooMany, {"what": "watched", "most": 12}, live.watch, "more", SAYING)
        self.assertIs(live.watch("n3", ~SAYING), False)
        self.assertEqual(len(live.words), 12)
        many = both_of([of_comparison(Comparison.read(f"a > {count} b")) for count in range(2, 23)])
        self.stays(live, TooMany, {"what": "watched", "most": 12}, live.watch, "more", many)
        self.stays(live, TooMany, {"what": "pairs", "most": 20}, live.watch, "n3", many)
        live.unwatch("n0")
        self.stays(live, TooMany, {"what": "pairs", "most": 20}, live.watch, "more", many)
        start = time.perf_counter()
        live.tell(Comparison.read("a > 2 b"))
        live.back()
        self.assertLess(time.perf_counter() - start, 5)

    def test_errors(self):
        self.refuses(BadBook, "book", Live, [is_a(Book)])
        self.raises(Impossible, {"paper": fit(IMPOSSIBLE)}, Live, IMPOSSIBLE)
        live = Live(BOOK)
        self.refuses(BadComparison, "row", live.tell, [is_a(Comparison)])
        self.refuses(BadNumber, "number", live.take, [lambda value: type(value) is int and value == 0])
        self.refuses(BadLive, "name", lambda value: live.watch(value, None), [lambda value: isinstance(value, str) and value == "a"])
        self.refuses(BadSaying, "saying", lambda value: live.watch("a", value), [is_a(Saying)])
        self.stays(live, BadNumber, {"part": "number"}, live.take, 1)
        self.stays(live, NoThing, {"name": "c"}, live.tell, Comparison.read("d + e > c"))
        self.stays(live, NoThing, {"name": "d"}, live.watch, "a", Saying.read("( and [ e > a ] [ a + d > b ] )"))
        for number in range(12):
            live.watch(f"n{number}", SAYING)
        self.stays(live, NoThing, {"name": "z"}, live.watch, "more", Saying.read("[ z > 0 ]"))
        full = Live(Book(["a", "b"], [COMPARISON] * 16))
        self.stays(full, TooMany, {"what": "rows", "most": 16}, full.tell, Comparison.read("b > a"))
        self.stays(full, NoThing, {"name": "c"}, full.tell, Comparison.read("b > c"))
        self.assertTrue(all(issubclass(error, ScaleError) for error in (BadLive, Nothing, NoName)))
        for kind in KINDS:
            self.assertEqual(Live(Book(["a"])).tell(Comparison.read(f"a {kind} 0")), ())


if __name__ == "__main__":
    import unittest
    unittest.main()
