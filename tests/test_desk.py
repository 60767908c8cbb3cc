"""[18] and scaleborn/desk.py."""

import random

from scaleborn.asks import asked
from scaleborn.books import Book
from scaleborn.carried import carried_by
from scaleborn.charts import charted
from scaleborn.comparisons import Comparison, Pair
from scaleborn.desk import Desk
from scaleborn.errors import (
    BadBook, BadLine, BadNumber, BadText, Impossible, NoName, Nothing, NoThing, ScaleError, TooMany, Twice)
from scaleborn.facets import facets
from scaleborn.ready_sorts import gaps_of, heaps_of, order_of
from scaleborn.rounds import fit
from scaleborn.sayings import Saying
from scaleborn.scales import Scale
from scaleborn.sorts import Sort
from scaleborn.verdicts import judged
from support import ODD, Case

TEXTS = {
    "k": "book a b c | a > b", "l": "book a b | a > b , b > a", "s": "saying [ a + b > 2 c ]", "t": "saying ( or [ a > b ] [ b > a ] )",
    "o": "sort a : b , b : c", "q": "sort a + b : 2 c", "m": "scale a 3 b 1 c 2", "p": "pair a : b", "r": "pair 2 a : b + c"}
CLASSES = {"book": Book, "saying": Saying, "sort": Sort, "scale": Scale, "pair": Pair}
KIND = {name: text.split(" ")[0] for name, text in TEXTS.items()}


def full_desk():
    """A desk that keeps some values of each kind."""
    return Desk([f"set {name} {text}" for name, text in TEXTS.items()])


def value(name):
    kind, text = TEXTS[name].split(" ", 1)
    return CLASSES[kind].read(text)


def wanted(first):
    """The kinds of the names in a line of this first word; None for any name that need not keep anything."""
    return {"show": ["any"], "fit": ["book"], "judge": ["book", "saying"], "holds": ["scale", "saying"],
            "outcome": ["scale", "pair"], "carries": ["book", "saying", "sort"], "lists": ["book", "sort"],
            "ask": ["book", "saying", "sort"], "facets": [None, "book", "saying"]}[first]


def state_of(desk):
    names = desk.kept_names()
    return names, [(type(desk.value_of(name)), str(desk.value_of(name))) for name in names], desk.told_lines()


class Desks(Case):
    def stays(self, desk, error, fields, line):
        """The line raises this error and changes nothing."""
        before = state_of(desk)
        self.raises(error, fields, desk.tell, line)
        self.assertEqual(state_of(desk), before)

    def bad(self, desk, line, word):
        self.stays(desk, BadText, {"line": 0, "word": word}, line)

    def test_example(self):
        desk = Desk()
        self.assertEqual(
            desk.run(["set k book a b c | a > b", "set s saying [ a + b > 2 c ]", "order o a b c", "judge k s", "carries k s o",
                      "facets f k s", "show f", "add k b > c", "judge k s", "lists k o"]),
            ["set", "set", "3", "hangs", "no", "1", "a + b : 2 c", "2", "always", "1"])
        self.assertEqual([desk.back(), desk.tell("show k"), desk.tell("ask k s f"), desk.kept_names(), "f" in desk, len(desk.told_lines())],
                         ["add k b > c", "a b c | a > b", "1", ("f", "k", "o", "s"), True, 4])
        self.bad(desk, "judge s k", 1)

    def test_set(self):
        desk = full_desk()
        for name, text in TEXTS.items():
            kind, told = text.split(" ", 1)
            self.assertEqual(desk.value_of(name), value(name))
            self.assertIs(type(desk.value_of(name)), CLASSES[kind])
            self.assertEqual(desk.tell(f"show {name}"), told)
        self.assertEqual(desk.tell(line="set k scale -"), "set")
        self.assertEqual(desk.value_of(name="k"), Scale({}))
        self.assertEqual(len(desk), len(TEXTS))

    def test_add_and_drop(self):
        desk = full_desk()
        self.assertEqual([desk.tell("add k b >= c"), desk.tell("add k a = b"), desk.tell("drop k 1"), desk.tell("show k")],
                         ["2", "3", "2", "a b c | a > b , a = b"])
        self.assertEqual(desk.value_of("k"), value("k").with_rows(Comparison.read("a = b")))
        # Impossible books are kept, too.
        self.assertEqual([desk.tell("fit k"), desk.tell("drop k 0"), desk.tell("drop k 0"), desk.tell("show k")],
                         ["none", "1", "0", "a b c | -"])
        self.stays(desk, BadNumber, {"part": "numbers"}, "drop k 0")
        self.stays(desk, BadNumber, {"part": "numbers"}, "drop l 2")
        self.stays(desk, NoThing, {"name": "d"}, "add k d + e > a")
        desk.run(["add k a > b"] * 16)
        self.stays(desk, TooMany, {"what": "rows", "most": 16}, "add k a > b")
        self.assertEqual(desk.tell("drop k 15"), "15")

    def test_ready_sorts(self):
        desk = Desk()
        for first, made in (("order", order_of), ("gaps", gaps_of), ("heaps", heaps_of)):
            for things in (["a"], ["b", "a"], ["c", "a", "b"]):
                sort = made(things)
                self.assertEqual(desk.tell(f"{first} n {' '.join(things)}"), str(len(sort)))
                self.assertEqual(desk.value_of("n"), sort)
            self.stays(desk, Twice, {"name": "b"}, f"{first} n a b c b a")
            self.stays(desk, TooMany, {"what": "pairs", "most": 15}, f"{first} n a b c d e f g")
            self.bad(desk, first, 1)
            self.bad(desk, f"{first} n", 2)
            self.bad(desk, f"{first} N a", 1)
            self.bad(desk, f"{first} n a b ", 4)
            self.bad(desk, f"{first} n a  b", 3)
            self.bad(desk, f"{first} n a B a", 3)
            self.bad(desk, f"{first} n 7", 2)

    def test_facets(self):
        desk = full_desk()
        found = facets(value("k"), value("s"))
        self.assertEqual(desk.tell("facets n k s"), str(len(found)))
        self.assertEqual(desk.value_of("n"), Sort([facet.pair for facet in found]))
        self.assertEqual([desk.tell("facets n k t"), desk.tell("show n")], ["0", "-"])
        self.stays(desk, Impossible, {"paper": fit(value("l"))}, "facets n l t")
        self.stays(desk, NoThing, {"name": "c"}, "facets n l s")
        steps = " ".join([f"( and [ a > {count} b ] ( not [ a > {count + 1} b ] ) )" for count in range(2, 18, 2)])
        desk.run(["set x book a b | a > 0 , b > 0", f"set w saying ( or {steps} )"])
        self.stays(desk, TooMany, {"what": "pairs", "most": 15}, "facets n x w")

    def test_what_is_asked(self):
        desk = full_desk()
        for k in ("k", "l"):
            paper = fit(value(k))
            self.assertEqual(desk.tell(f"fit {k}"), str(paper.scale) if paper else "none")
        desk.run(["set e book a b c | -", "set n book a b c | a > 2 b , 2 b > a", "set v book a b c | a > b , b > c", "order w a b c"])
        words = set()
        for k in ("k", "e", "v"):
            for s in ("s", "t"):
                book, saying = desk.value_of(k), desk.value_of(s)
                words.add(desk.tell(f"judge {k} {s}"))
                self.assertEqual(desk.tell(f"judge {k} {s}"), judged(book, saying).word)
                for o in ("o", "q", "w"):
                    by = desk.value_of(o)
                    self.assertEqual(desk.tell(f"carries {k} {s} {o}"), "yes" if carried_by(book, saying, by) else "no")
                    plan = asked(book, saying, by)
                    self.assertEqual(desk.tell(f"ask {k} {s} {o}"), str(plan.number) if plan else "none")
                    self.assertEqual(desk.tell(f"lists {k} {o}"), str(len(charted(book, by))))
        self.assertEqual(words, {"always", "hangs"})
        self.assertEqual([desk.run(["set u saying [ c > b ]", "judge v u"])[1], desk.tell("holds m u"), desk.tell("holds m s")], ["never", "yes", "no"])
        self.assertEqual([desk.tell("outcome m p"), desk.tell("outcome m r")], ["more", "more"])
        desk.run(["set i pair b : c", "set j pair a : b + c"])
        self.assertEqual([desk.tell("outcome m i"), desk.tell("outcome m j")], ["less", "alike"])

    def test_errors_of_the_functions(self):
        desk = full_desk()
        desk.run(["set x scale a 1", "set y saying [ z > 0 ]", "set z sort y : z", "set w pair b : z"])
        for line, error, fields in (
                ("judge l t", Impossible, {"paper": fit(value("l"))}), ("judge k y", NoThing, {"name": "z"}),
                ("holds x t", NoThing, {"name": "b"}), ("outcome m w", NoThing, {"name": "z"}),
                ("carries k s z", NoThing, {"name": "y"}), ("carries l t p", BadText, {"line": 0, "word": 3}),
                ("lists k z", NoThing, {"name": "y"}), ("ask k y z", NoThing, {"name": "z"}), ("ask l t z", NoThing, {"name": "y"}),
                ("lists l o", NoThing, {"name": "c"})):
            self.stays(desk, error, fields, line)
        desk.tell("set h sort " + " , ".join(["a : b"] + [f"a : {count} b" for count in range(2, 8)]))
        self.stays(desk, TooMany, {"what": "asked", "most": 6}, "ask k t h")

    def test_each_word_bent(self):
        desk = full_desk()
        for first, name in (("fit", "k"), ("judge", "k t"), ("holds", "m s"), ("outcome", "m p"), ("carries", "k s o"),
                            ("lists", "k o"), ("ask", "k s q"), ("show", "p"), ("facets", "new k s")):
            words = [first, *name.split(" ")]
            kinds = wanted(first)
            self.assertIs(type(full_desk().tell(" ".join(words))), str)
            for at in range(1, len(words) + 1):
                self.bad(desk, " ".join(words[:at]), at) if at < len(words) else None
                for other in [*TEXTS, "", "none", "A", "7", "k1", " ", first]:
                    put = [*words[:at], other, *words[at + 1:]]
                    if at == len(words) or not self.may_stand(kinds[at - 1], other):
                        self.bad(desk, " ".join(put), at)
            self.bad(desk, " ".join([*words, words[-1]]), len(words))
            self.bad(desk, " ".join([*words, ""]), len(words))
            self.bad(desk, "", 0)
            for other in ("", "Fit", "fits", "k", "sets", "1"):
                self.bad(desk, " ".join([other, *words[1:]]), 0)
            self.bad(desk, " " + " ".join(words), 0)

    def test_words_left_out_doubled_and_exchanged(self):
        desk = full_desk()
        for first, name in (("fit", "k"), ("judge", "k t"), ("holds", "m s"), ("outcome", "m p"), ("carries", "k s o"),
                            ("lists", "k o"), ("ask", "k s q"), ("show", "p"), ("facets", "new k s")):
            words, kinds = [first, *name.split(" ")], wanted(first)
            lines = [words[:at] + words[at + 1:] for at in range(1, len(words))]
            lines.extend([words[:at] + [words[at]] + words[at:] for at in range(1, len(words))])
            lines.extend([words[:at] + [""] + words[at:] for at in range(len(words) + 1)])
            for at in range(1, len(words)):
                for to in range(1, at):
                    swapped = list(words)
                    swapped[at], swapped[to] = swapped[to], swapped[at]
                    lines.append(swapped)
            for line in lines:
                wrong = [at for at, word in enumerate(line[1:len(words)]) if not self.may_stand(kinds[at], word)]
                if line[0] != first:
                    self.bad(desk, " ".join(line), 0)
                elif wrong:
                    self.bad(desk, " ".join(line), wrong[0] + 1)
                elif len(line) != len(words):
                    self.bad(desk, " ".join(line), min(len(line), len(words)))
                else:
                    self.assertIs(type(full_desk().tell(" ".join(line))), str)

    def may_stand(self, kind, word):
        """Whether a word may stand for a value of this kind."""
        if kind is None:
            return word not in ("", "A", "7", " ")
        return word in KIND and (kind == "any" or KIND[word] == kind)

    def test_set_bent(self):
        desk = full_desk()
        for line, word in (("set", 1), ("set ", 1), ("set A book a | -", 1), ("set 1 book a | -", 1), ("set  book a | -", 1),
                           ("set k", 2), ("set k ", 2), ("set k books a | -", 2), ("set k Book a | -", 2), ("set k comparison a > b", 2),
                           ("set k book", 3), ("set k book ", 3), ("set k book a", 4), ("set k book a |", 5), ("set k book a | ", 5),
                           ("set k book a | - -", 6), ("set k book a | b > a", 5), ("set k saying [ a > ]", 6), ("set k saying", 3),
                           ("set k saying [ 2 a > 2 b ]", 8), ("set k sort a : b , b : a", 9), ("set k sort a : b , a : b", 9),
                           ("set k sort - -", 4), ("set k scale a 1 a", 5), ("set k scale a", 4), ("set k pair 0 : a", 3),
                           ("set k pair a : b c", 6), ("set k pair a", 4), ("set k pair", 3), ("set longername123 pair a : b", 1),
                           ("add", 1), ("add z a > b", 1), ("add s a > b", 1), ("add k", 2), ("add k a", 3), ("add k a > b ", 5),
                           ("add k a > b , b > a", 5), ("add k a > 2 a", 5), ("add k 2 a > 2 b", 6), ("add k b = a", 4),
                           ("drop", 1), ("drop o 0", 1), ("drop k", 2), ("drop k ", 2), ("drop k -1", 2), ("drop k 00", 2), ("drop k a", 2),
                           ("drop k 0 0", 3), ("drop k 0 ", 3), ("drop k 1/2", 2), ("drop k " + "9" * 61, 2)):
            self.bad(desk, line, word)
        self.stays(desk, BadNumber, {"part": "numbers"}, "drop k " + "9" * 60)
        for odd in ODD:
            if not isinstance(odd, str):
                self.stays(desk, BadText, {"line": 0, "word": 0}, odd)
        self.bad(desk, "set k saying " + " ".join(["( and"] + ["( and )"] * 1400 + [")"]), 3 + 4000)
        self.bad(desk, "set k saying " + "( not " * 60 + "[ a > b ]" + " )" * 60, 3 + 120)

    def test_run(self):
        desk = full_desk()
        before = state_of(desk)
        good = ["set n book a | -", "add n a > 0", "order o x y", "show n"]
        for index in range(len(good) + 1):
            for line, kind in (("show none", BadText), ("drop n 5", BadNumber if index > 0 else BadText), ("judge l t", Impossible), (7, BadText)):
                lines = [*good[:index], line, *good[index:]]
                for told in (lines, tuple(lines)):
                    with self.assertRaises(BadLine) as caught:
                        desk.run(lines=told)
                    self.assertEqual(caught.exception.line, index)
                    self.assertIs(type(caught.exception.error), kind)
                    self.assertEqual(state_of(desk), before)
                with self.assertRaises(BadLine):
                    Desk(lines)
                self.assertEqual(len(lines), 5)
        for value_told in ODD:
            if not isinstance(value_told, (list, tuple)):
                for call in (desk.run, Desk):
                    with self.assertRaises(BadLine) as caught:
                        call(value_told)
                    error = caught.exception.error
                    self.assertEqual((caught.exception.line, type(error), error.line, error.word), (0, BadText, 0, 0))
        self.assertEqual(desk.run([]), [])
        self.assertEqual(desk.run(good), ["set", "1", "1", "a | a > 0"])
        answers = desk.run(["show n"])
        answers.append("more")
        self.assertEqual(desk.run(("show n",)), ["a | a > 0"])

    def test_a_line_that_fails_leaves_what_can_be_taken_back(self):
        desk = Desk(["set k book a | -", "add k a > 0"])
        with self.assertRaises(BadLine):
            desk.run(["add k a >= 0", "drop k 9"])
        self.assertEqual([desk.back(), desk.tell("show k"), desk.back(), len(desk)], ["add k a > 0", "a | -", "set k book a | -", 0])

    def test_back(self):
        desk = Desk()
        states, lines = [], ["set k book a b c | a > b", "add k b > c", "set s saying [ a > c ]", "order k a b", "gaps n a b c",
                             "set m scale a 1", "heaps m a b", "set k book a b c | -", "facets m k s", "add k a > c", "drop k 0"]
        for line in lines:
            states.append(state_of(desk))
            desk.tell(line)
            desk.tell("show k")
        for line in lines[::-1]:
            self.assertEqual(desk.back(), line)
            self.assertEqual(state_of(desk), states.pop())
        self.raises(Nothing, {}, desk.back)
        self.assertEqual((len(desk), desk.told_lines(), desk.kept_names()), (0, (), ()))
        desk.run(lines[:2])
        desk.back()
        desk.tell("add k c > a")
        self.assertEqual(desk.told_lines(), (lines[0], "add k c > a"))
        self.assertEqual([desk.back(), desk.back()], ["add k c > a", lines[0]])
        self.raises(Nothing, {}, desk.back)
        self.assertEqual(desk.tell("set k pair a : b"), "set")

    def test_long_runs(self):
        source = random.Random(461)
        for _ in range(12):
            desk, states = Desk(), []
            for _ in range(60):
                before = state_of(desk)
                line = self.some_line(source)
                if source.random() < 0.2 and states:
                    desk.back()
                    self.assertEqual(state_of(desk), states.pop())
                    continue
                try:
                    desk.tell(line)
                except ScaleError:
                    self.assertEqual(state_of(desk), before)
                    continue
                if line.split(" ")[0] in ("set", "add", "drop", "order", "gaps", "heaps", "facets"):
                    states.append(before)
                    self.assertEqual(desk.told_lines(), (*before[2], line))
                else:
                    self.assertEqual(state_of(desk), before)
                self.assertIs(Desk(desk.told_lines()) == desk, True)
            self.assertGreater(len(states), 5)

    def some_line(self, source):
        """A line that is often right."""
        name = source.choice("klno")
        texts = [f"set {name} {source.choice(list(TEXTS.values()))}", f"add {name} {source.choice(['a > b', 'b >= a', 'c = 0'])}",
                 f"drop {name} {source.randint(0, 2)}", f"order {name} a b", f"gaps {name} b c", f"heaps {name} a b",
                 f"facets {name} k {source.choice('ln')}", f"show {name}", f"fit {name}", f"judge k {name}", "set k book a b c | a > b",
                 "set l saying [ a + b > 2 c ]"]
        return source.choice(texts)

    def test_names(self):
        desk = full_desk()
        self.assertEqual(desk.kept_names(), tuple(sorted(TEXTS)))
        for told in [*ODD, "k", "zz", "k "]:
            kept = isinstance(told, str) and told in TEXTS
            self.assertIs(told in desk, kept)
            if not kept:
                with self.assertRaises(NoName) as caught:
                    desk.value_of(told)
                self.assertIs(caught.exception.name, told)
        self.assertEqual(len(Desk()), 0)

    def test_equality(self):
        one, other = full_desk(), Desk([f"set {name} {TEXTS[name]}" for name in sorted(TEXTS, reverse=True)])
        self.assertIs(one == other, True)
        self.assertIs(one == Desk(one.told_lines()), True)
        # The deeds may differ where the values do not.
        other.run(["set x pair a : b", "set k book a b c | -", "add k a > b"])
        self.assertIs(one == other, False)
        one.tell("set x pair a : b")
        self.assertIs(one == other, True)
        one.tell("set x sort a : b")
        self.assertIs(one == other, False)
        one.tell("order x a b")
        self.assertIs(one == other, False)
        other.tell("set x sort a : b")
        self.assertIs(one == other, True)
        for told in ODD:
            self.assertIs(one == told, False)
        self.assertTrue(all(issubclass(error, ScaleError) for error in (BadBook, BadLine, NoName)))


if __name__ == "__main__":
    import unittest
    unittest.main()
