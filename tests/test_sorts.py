"""[5], scaleborn/sorts.py."""

import unittest

from scaleborn.balances import Balance
from scaleborn.comparisons import Comparison, Pair
from scaleborn.errors import BadNumber, BadPair, BadSort, TooMany, Twice
from scaleborn.sorts import Sort
from support import ODD, PAIR, SORT, Case, is_a


def pairs_of(*texts):
    return [Pair.read(text) for text in texts]


FIFTEEN = pairs_of(*[f"{number} a : b" for number in range(2, 17)])


class Sorts(Case):
    def test_example(self):
        sort = Sort([Pair.read("a : b"), Pair.read("2 a : b + c")])
        self.assertEqual([Pair(Balance({"b": 1, "a": -1})) in sort, str(sort + Sort.read("b : c , a : b"))],
                         [True, "a : b , 2 a : b + c , b : c"])

    def test_pairs(self):
        pairs = pairs_of("d : e", "a : b", "2 a : b + c")
        sort = Sort(pairs)
        self.assertEqual(sort.pairs, tuple(pairs))
        self.assertEqual(sort.things, ("a", "b", "c", "d", "e"))
        self.assertEqual(len(sort), 3)
        self.assertEqual(list(sort), pairs)
        self.assertEqual([str(pair) for pair in sort], ["d : e", "a : b", "2 a : b + c"])
        self.assertEqual(Sort(tuple(pairs)), sort)
        pairs.append(PAIR)
        self.assertEqual(len(sort), 3)
        empty = Sort(pairs=[])
        self.assertEqual((empty.pairs, empty.things, len(empty), list(empty), str(empty)), ((), (), 0, [], "-"))

    def test_wrong_pairs(self):
        self.refuses(BadPair, "pairs", Sort, [lambda value: isinstance(value, (list, tuple)) and (
            len(value) == 0 or value[0] is PAIR)])
        for value in (SORT, [PAIR, None], [PAIR, "a : b"], [Comparison.read("a > b")], 5):
            self.raises(BadPair, {"part": "pairs"}, Sort, value)

    def test_twice_and_too_many(self):
        pairs = pairs_of("a : b", "c : d", "2 a : b", "c : d", "a : b")
        self.raises(Twice, {"name": "c : d"}, Sort, pairs)
        self.assertEqual(len(Sort(FIFTEEN)), 15)
        sixteen = [*FIFTEEN, Pair.read("a : b")]
        self.raises(TooMany, {"what": "pairs", "most": 15}, Sort, sixteen)
        self.raises(Twice, {"name": "2 a : b"}, Sort, [*sixteen, Pair.read("2 a : b")])
        self.raises(BadPair, {"part": "pairs"}, Sort, [*sixteen, sixteen[0], None])

    def test_in(self):
        sort = Sort(FIFTEEN)
        for pair in FIFTEEN:
            self.assertIs(Pair(-pair.balance) in sort, True)
        self.assertIs(PAIR in sort, False)
        self.assertIs(PAIR in SORT, True)
        self.assertIs(PAIR in Sort([]), False)
        for value in ODD:
            self.assertIs(value in SORT, value is PAIR)
        self.assertIs("a : b" in SORT, False)

    def test_sum(self):
        one, other = Sort(pairs_of("c : d", "a : b")), Sort(pairs_of("b : c", "a : b", "a : c"))
        self.assertEqual(str(one + other), "c : d , a : b , b : c , a : c")
        self.assertEqual(str(other + one), "b : c , a : b , a : c , c : d")
        self.assertEqual(one + one, one)
        self.assertEqual(Sort([]) + one, one)
        self.refuses(BadSort, "other", lambda value: SORT + value, [is_a(Sort)])
        self.assertEqual(len(Sort(FIFTEEN[:8]) + Sort(FIFTEEN[5:])), 15)
        self.raises(TooMany, {"what": "pairs", "most": 15}, lambda: Sort(FIFTEEN) + SORT)
        self.assertEqual(Sort(FIFTEEN) + Sort(FIFTEEN[::-1]), Sort(FIFTEEN))

    def test_only(self):
        sort = Sort(FIFTEEN)
        self.assertEqual(sort.only([3, 0, 14]).pairs, (FIFTEEN[3], FIFTEEN[0], FIFTEEN[14]))
        self.assertEqual(sort.only(numbers=()).pairs, ())
        self.assertEqual(sort.only(list(range(15))), sort)
        for value in (None, 0, "0", [15], [-1], [0, 0], [1, 2, 1], [True], [None], [[0]], {0: 1}, {0}, range(2), ["0"],
                      [0, True], object()):
            self.raises(BadNumber, {"part": "numbers"}, sort.only, value)
        self.raises(BadNumber, {"part": "numbers"}, Sort([]).only, [0])

    def test_equality(self):
        self.assertEqual(Sort(pairs_of("a : b", "c : d")), Sort(pairs_of("a : b", "c : d")))
        self.assertNotEqual(Sort(pairs_of("a : b", "c : d")), Sort(pairs_of("c : d", "a : b")))
        self.assertNotEqual(Sort(pairs_of("a : b")), Sort(pairs_of("a : b", "c : d")))
        for value in ODD:
            if "Stubborn" not in repr(value):
                self.assertIs(SORT == value, value is SORT)

    def test_texts(self):
        for sort in (Sort([]), SORT, Sort(FIFTEEN), Sort(pairs_of("a : 0", "a + b : c", "b + 2 c : d"))):
            self.assertEqual(Sort.read(str(sort)), sort)
        long = " , ".join([str(pair) for pair in FIFTEEN])
        many = len(long.split(" "))
        for text, word in (
                (long + " , a : b", many), (long + " ,", many), (long + " x", many), ("- -", 1), ("- ,", 1), ("", 0), ("-  ", 1),
                ("a : b ,", 4), ("a : b , a : b", 6), ("a : b , a : b + c", None), ("a : b , a : b +", 8),
                ("a : b , a : b c", 6), ("a : b , a : b , c : d", 6), ("a : 0 , a : 0", 6), ("a : 0 , a : 0 + b", 6),
                ("a : b , -", 4), (", a : b", 0), ("a : b c", 3), ("a : b , , a : c", 4), ("a : b , c : d , a : b", 10),
                ("a : b , a + b : c , a : b x", 12), ("a : b , 2 a : 2 b", 8), ("a > b", 1), ("a : b ,  a : c", 4)):
            if word is None:
                self.assertEqual(str(Sort.read(text)), text)
            else:
                self.bad_text(Sort.read, text, word)
        for value in ODD:
            if not isinstance(value, str):
                self.bad_text(Sort.read, value, 0)


if __name__ == "__main__":
    unittest.main()
