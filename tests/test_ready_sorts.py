"""[5], scaleborn/ready_sorts.py."""

import itertools
import unittest
from math import gcd

from scaleborn.errors import BadBalance, BadNumber, TooMany, Twice, Unlike
from scaleborn.ready_sorts import cells_of, copies_of, gaps_of, heaps_of, order_of
from support import ODD, Case, is_written

MANY = {"what": "pairs", "most": 15}


def sum_text(numbers):
    return " + ".join([thing if number == 1 else f"{number} {thing}" for thing, number in sorted(numbers.items())]) or "0"


def pair_text(ones, others):
    """The text of the pair of two lists of things, None where nothing is left."""
    numbers = {thing: ones.count(thing) - others.count(thing) for thing in sorted({*ones, *others})}
    numbers = {thing: number for thing, number in numbers.items() if number}
    if not numbers:
        return None
    divisor = gcd(*numbers.values()) * (1 if list(numbers.values())[0] > 0 else -1)
    numbers = {thing: number // divisor for thing, number in numbers.items()}
    return (sum_text({thing: number for thing, number in numbers.items() if number > 0}) + " : "
            + sum_text({thing: -number for thing, number in numbers.items() if number < 0}))


def texts_of(couples):
    return sorted({pair_text(ones, others) for ones, others in couples} - {None})


def order_texts(things, nothing):
    couples = [([one], [other]) for one in things for other in things]
    return texts_of(couples + [([one], []) for one in things if nothing])


def gap_texts(things):
    return texts_of([([a, d], [b, c]) for a, b, c, d in itertools.product(things, repeat=4)])


def heap_texts(things):
    heaps = [list(heap) for many in range(len(things) + 1) for heap in itertools.combinations(things, many)]
    return texts_of([(one, other) for one in heaps for other in heaps if not set(one) & set(other)])


def copy_texts(one, other, most):
    return texts_of([([one] * i, [other] * j) for i in range(1, most + 1) for j in range(1, most + 1)])


def cell_texts(ones, others):
    return texts_of([([r, c], [s, d]) for r in ones for s in ones for c in others for d in others])


class ReadySorts(Case):
    def agree(self, texts, function, *told):
        if len(texts) > 15:
            self.raises(TooMany, MANY, function, *told)
        else:
            self.assertEqual([str(pair) for pair in function(*told)], texts)

    def test_example(self):
        self.assertEqual(
            [str(order_of(["b", "a"], nothing=True)), str(copies_of("b", "a", 2)), len(heaps_of(["a", "b", "c"]))],
            ["a : 0 , a : b , b : 0", "2 a : b , a : 2 b , a : b", 13])
        self.assertEqual(
            [str(gaps_of(["a", "b", "c"])), len(cells_of(["p", "q"], ["y", "x"]))],
            ["2 a : b + c , a + b : 2 c , a + c : 2 b , a : b , a : c , b : c", 4])

    def test_lists_of_things(self):
        pool = ["m", "b", "z1", "a", "k", "b0", "c", "q"]
        for many in range(9):
            for things in (pool[:many], tuple(pool[8 - many:])):
                for nothing in (False, True):
                    self.agree(order_texts(things, nothing), order_of, things, nothing)
                self.agree(gap_texts(things[:5]), gaps_of, things[:5])
                self.agree(heap_texts(things[:5]), heaps_of, things[:5])
        self.assertEqual(str(order_of(things=[])), "-")
        self.assertEqual(str(order_of(("b", "a"))), "a : b")
        self.assertEqual(str(heaps_of([])), "-")
        self.assertEqual(str(gaps_of(["a"])), "-")
        self.assertEqual(str(order_of(["a"], True)), "a : 0")

    def test_copies(self):
        for one, other in (("a", "b"), ("b", "a"), ("z", "c1")):
            for most in range(1, 5):
                self.agree(copy_texts(one, other, most), copies_of, one, other, most)

    def test_cells(self):
        pool, other_pool = ["p", "m", "q", "a", "x", "x1", "x2"], ["y", "n", "b", "c", "d", "e", "f"]
        for many in range(8):
            for others in range(8):
                if min(many, others) < 4:
                    ones = pool[:many]
                    self.agree(cell_texts(ones, other_pool[:others]), cells_of, ones, tuple(other_pool[:others]))
        self.assertEqual(str(cells_of([], ["a", "b"])), "-")

    def test_long_lists(self):
        long = [f"a{number}" for number in range(3000)]
        self.raises(TooMany, MANY, order_of, long)
        self.raises(TooMany, MANY, gaps_of, long)
        self.raises(TooMany, MANY, heaps_of, long)
        self.raises(TooMany, MANY, cells_of, ["x"], long)
        self.raises(TooMany, MANY, cells_of, long, ["x", "y"])
        self.raises(Twice, {"name": "a7"}, gaps_of, [*long, "a7", "a0"])

    def test_errors(self):
        right = [is_written("[]", "()", "['a']", "('a', 'b')")]
        for function in (order_of, gaps_of, heaps_of):
            self.refuses(BadBalance, "things", function, right)
            self.raises(Twice, {"name": "b"}, function, ["a", "b", "b", "a"])
            self.raises(Twice, {"name": "a"}, function, ["a", "b", "c", "d", "e", "f", "a", "g", "h"])
        self.refuses(BadBalance, "ones", lambda value: cells_of(value, None), right)
        self.refuses(BadBalance, "others", lambda value: cells_of(["a", "a"], value), right)
        self.raises(Twice, {"name": "a"}, cells_of, ["b", "a", "a"], ["c", "c", "a"])
        self.raises(Twice, {"name": "c"}, cells_of, ["c", "a"], ["c", "c"])
        self.raises(Unlike, {"what": "things"}, cells_of, ["c", "a"], ["b", "a"])
        long = [f"a{number}" for number in range(9)]
        self.raises(Unlike, {"what": "things"}, cells_of, long, [*"bcdefghi", "a8"])
        name = [is_written("'a'")]
        self.refuses(BadBalance, "one", lambda value: copies_of(value, value, 9), name)
        self.refuses(BadBalance, "other", lambda value: copies_of("a", value, 9), name)
        for value in ODD:
            if type(value) is not int or not 1 <= value <= 4:
                self.raises(BadNumber, {"part": "most"}, copies_of, "a", "a", value)
        for most in (0, 5, -1, True):
            self.raises(BadNumber, {"part": "most"}, copies_of, one="a", other="b", most=most)
        self.raises(Unlike, {"what": "things"}, copies_of, "a", "a", 4)


if __name__ == "__main__":
    unittest.main()
