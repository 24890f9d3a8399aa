"""Promise 1: where."""

import unittest

from helper import FLOATS, HOLES, NUMBERS, check_call, is_nan, long_column, value_of
from holecolumnsdesk.columns import where

ZERO, MINUS_ZERO = 0x00000000, 0x80000000
ONE, MINUS_ONE = 0x3F800000, 0xBF800000
TWO, MINUS_TWO = 0x40000000, 0xC0000000
INF, MINUS_INF = 0x7F800000, 0xFF800000
HOLE, MINUS_HOLE = 0x7FC00000, 0xFFC00000


def both_numbers(x, y):
    return not is_nan(x) and not is_nan(y)


# The document's words over Python's own floats.
RULES = {
    0: lambda x, y: both_numbers(x, y) and value_of(x) < value_of(y),
    1: lambda x, y: both_numbers(x, y) and value_of(x) <= value_of(y),
    2: lambda x, y: both_numbers(x, y) and value_of(x) == value_of(y),
    3: lambda x, y: both_numbers(x, y) and value_of(x) != value_of(y),
    4: lambda x, y: is_nan(x),
    5: lambda x, y: not is_nan(x),
    6: lambda x, y: is_nan(x) or is_nan(y),
    7: lambda x, y: x >> 31 == 1,
}


def expected_where(what, a, b):
    bits = [int(RULES[what](x, y)) for x, y in zip(a, b)]
    return [sum(bits)] + bits


class WhereByHand(unittest.TestCase):
    """Answers written out, one row after the other."""

    rows = [
        (ONE, TWO),
        (TWO, ONE),
        (MINUS_ONE, MINUS_TWO),
        (MINUS_TWO, MINUS_ONE),
        (MINUS_ONE, ONE),
        (ONE, ONE),
        (ZERO, MINUS_ZERO),
        (MINUS_ZERO, ZERO),
        (MINUS_INF, INF),
        (INF, INF),
        (HOLE, ONE),
        (ONE, HOLE),
        (MINUS_HOLE, MINUS_HOLE),
        (MINUS_INF, 0xFF800001),
        (0x7F800001, INF),
        (0xFFFFFFFF, ZERO),
    ]

    def check(self, what, bits):
        a = [row[0] for row in self.rows]
        b = [row[1] for row in self.rows]
        check_call(self, where, (what, a, b), [bits.count(1)] + bits)

    def test_below(self):
        self.check(0, [1, 0, 0, 1, 1, 0, 0, 0, 1, 0, 0, 0, 0, 0, 0, 0])

    def test_below_or_same(self):
        self.check(1, [1, 0, 0, 1, 1, 1, 1, 1, 1, 1, 0, 0, 0, 0, 0, 0])

    def test_same(self):
        self.check(2, [0, 0, 0, 0, 0, 1, 1, 1, 0, 1, 0, 0, 0, 0, 0, 0])

    def test_numbers_not_the_same(self):
        self.check(3, [1, 1, 1, 1, 1, 0, 0, 0, 1, 0, 0, 0, 0, 0, 0, 0])

    def test_a_is_a_hole(self):
        self.check(4, [0, 0, 0, 0, 0, 0, 0, 0, 0, 0, 1, 0, 1, 0, 1, 1])

    def test_a_is_no_hole(self):
        self.check(5, [1, 1, 1, 1, 1, 1, 1, 1, 1, 1, 0, 1, 0, 1, 0, 0])

    def test_one_is_a_hole(self):
        self.check(6, [0, 0, 0, 0, 0, 0, 0, 0, 0, 0, 1, 1, 1, 1, 1, 1])

    def test_sign_bit_of_a(self):
        self.check(7, [0, 0, 1, 1, 1, 0, 0, 1, 1, 0, 0, 0, 1, 1, 0, 1])


class WhereOverPairs(unittest.TestCase):
    def check_pairs(self, lefts, rights):
        pairs = [(x, y) for x in lefts for y in rights]
        a = [pair[0] for pair in pairs]
        b = [pair[1] for pair in pairs]
        self.assertLessEqual(len(pairs), 1000)
        for what in range(8):
            with self.subTest(what=what):
                check_call(self, where, (what, a, b), expected_where(what, a, b))

    def test_every_pair_of_floats_at_the_edges(self):
        self.check_pairs(FLOATS, FLOATS)

    def test_each_pair_by_itself(self):
        for what in range(8):
            for x in FLOATS:
                for y in FLOATS:
                    bit = int(RULES[what](x, y))
                    self.assertEqual(where(what, [x], [y]), [bit, bit], (what, x, y))

    def test_a_hole_holds_nothing_from_0_to_3(self):
        for what in range(4):
            for hole in HOLES:
                for other in FLOATS:
                    self.assertEqual(where(what, [hole], [other]), [0, 0])
                    self.assertEqual(where(what, [other], [hole]), [0, 0])

    def test_a_number_is_never_a_hole(self):
        count = len(NUMBERS)
        self.assertEqual(where(4, NUMBERS, NUMBERS), [0] + [0] * count)
        self.assertEqual(where(5, NUMBERS, NUMBERS), [count] + [1] * count)
        self.assertEqual(where(6, NUMBERS, NUMBERS), [0] + [0] * count)

    def test_what_4_and_5_and_7_do_not_look_at_b(self):
        for what in (4, 5, 7):
            for x in FLOATS:
                self.assertEqual(len({tuple(where(what, [x], [y])) for y in FLOATS}), 1)


class WhereRefusals(unittest.TestCase):
    def test_a_what_that_is_not_named(self):
        for what in (8, 9, 15, 16, 255, 256, 264, 2**31 - 1, 2**31, 2**32 - 8, 2**32 - 1):
            with self.subTest(what=what):
                check_call(self, where, (what, [ONE, HOLE], [TWO, ONE]), [-1])

    def test_refused_without_rows_too(self):
        check_call(self, where, (8, [], []), [-1])
        check_call(self, where, (4294967295, [], []), [-1])

    def test_refused_with_1000_rows(self):
        column = long_column(1000)
        check_call(self, where, (4294967295, column, column), [-1])


class WhereSizes(unittest.TestCase):
    def test_no_rows(self):
        for what in range(8):
            check_call(self, where, (what, [], []), [0])

    def test_one_row(self):
        for what, bit in enumerate([1, 1, 0, 1, 0, 1, 0, 1]):
            check_call(self, where, (what, [MINUS_ONE], [ONE]), [bit, bit])

    def test_1000_rows(self):
        a = long_column(1000)
        b = a[300:] + a[:300]
        for what in range(8):
            check_call(self, where, (what, a, b), expected_where(what, a, b))

    def test_all_and_none_of_1000_rows(self):
        check_call(self, where, (0, [ONE] * 1000, [TWO] * 1000), [1000] + [1] * 1000)
        check_call(self, where, (0, [TWO] * 1000, [ONE] * 1000), [0] + [0] * 1000)

    def test_one_list_handed_in_as_both(self):
        for what in range(8):
            same = list(FLOATS)
            self.assertEqual(where(what, same, same), expected_where(what, FLOATS, FLOATS))
            self.assertEqual(same, FLOATS)


if __name__ == "__main__":
    unittest.main()
