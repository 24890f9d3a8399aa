"""Promise 9: limits."""

import math
import unittest

from helper import FLOATS, HOLES, NUMBERS, check_call, is_nan, long_column, value_of
from holecolumnsdesk.columns import limits

ZERO, MINUS_ZERO = 0x00000000, 0x80000000
ONE, MINUS_ONE = 0x3F800000, 0xBF800000
TWO, MINUS_TWO = 0x40000000, 0xC0000000
INF, MINUS_INF = 0x7F800000, 0xFF800000
HOLE, MINUS_HOLE = 0x7FC00000, 0xFFC00000


def expected_row(what, x, y):
    """The document's words over Python's own floats."""
    if is_nan(x) and is_nan(y):
        return x
    if is_nan(x) or is_nan(y):
        return y if is_nan(x) else x
    # -0 and 0 are the same to Python: their signs part them.
    pair = sorted([x, y], key=lambda bits: (value_of(bits), math.copysign(1, value_of(bits))))
    return pair[what]


def expected_limits(what, a, b):
    both = sum(is_nan(x) and is_nan(y) for x, y in zip(a, b))
    return [both] + [expected_row(what, x, y) for x, y in zip(a, b)]


class LimitsByHand(unittest.TestCase):
    def check(self, x, y, lower, greater, both=0):
        """Also the other way round, but for two holes."""
        check_call(self, limits, (0, [x], [y]), [both, lower])
        check_call(self, limits, (1, [x], [y]), [both, greater])
        if not both:
            check_call(self, limits, (0, [y], [x]), [0, lower])
            check_call(self, limits, (1, [y], [x]), [0, greater])

    def test_above_0(self):
        self.check(ONE, TWO, ONE, TWO)
        self.check(0x00000001, 0x00000002, 0x00000001, 0x00000002)

    def test_below_0(self):
        self.check(MINUS_ONE, MINUS_TWO, MINUS_TWO, MINUS_ONE)
        self.check(0x80000001, 0x80000002, 0x80000002, 0x80000001)

    def test_either_sign(self):
        self.check(MINUS_ONE, ONE, MINUS_ONE, ONE)
        self.check(MINUS_TWO, ONE, MINUS_TWO, ONE)
        self.check(0x80000001, 0x00000001, 0x80000001, 0x00000001)

    def test_infinities(self):
        self.check(INF, MINUS_INF, MINUS_INF, INF)
        self.check(INF, 0x7F7FFFFF, 0x7F7FFFFF, INF)
        self.check(MINUS_INF, 0xFF7FFFFF, MINUS_INF, 0xFF7FFFFF)

    def test_minus_zero_is_lower_than_zero(self):
        self.check(MINUS_ZERO, ZERO, MINUS_ZERO, ZERO)

    def test_minus_zero_and_its_neighbours(self):
        self.check(MINUS_ZERO, 0x80000001, 0x80000001, MINUS_ZERO)
        self.check(MINUS_ZERO, 0x00000001, MINUS_ZERO, 0x00000001)
        self.check(ZERO, 0x80000001, 0x80000001, ZERO)
        self.check(ZERO, 0x00000001, ZERO, 0x00000001)

    def test_the_same_bits(self):
        for bits in NUMBERS:
            self.check(bits, bits, bits, bits)
        for bits in HOLES:
            self.check(bits, bits, bits, bits, both=1)

    def test_one_hole(self):
        for hole in HOLES:
            for number in NUMBERS:
                self.check(hole, number, number, number)

    def test_two_holes(self):
        for x in HOLES:
            for y in HOLES:
                self.check(x, y, x, x, both=1)

    def test_next_to_an_infinity(self):
        self.check(0x7F800001, INF, INF, INF)
        self.check(0xFF800001, MINUS_INF, MINUS_INF, MINUS_INF)
        self.check(0xFFFFFFFF, MINUS_INF, MINUS_INF, MINUS_INF)
        self.check(0xFFFFFFFF, 0x7F800001, 0xFFFFFFFF, 0xFFFFFFFF, both=1)

    def test_several_rows(self):
        a = [ONE, HOLE, MINUS_ONE, HOLE, 0xFFFFFFFF, MINUS_ZERO]
        b = [TWO, ONE, HOLE, MINUS_HOLE, 0x7F800001, ZERO]
        check_call(self, limits, (0, a, b), [2, ONE, ONE, MINUS_ONE, HOLE, 0xFFFFFFFF, MINUS_ZERO])
        check_call(self, limits, (1, a, b), [2, TWO, ONE, MINUS_ONE, HOLE, 0xFFFFFFFF, ZERO])


class LimitsOverPairs(unittest.TestCase):
    def test_every_pair_of_floats_at_the_edges(self):
        pairs = [(x, y) for x in FLOATS for y in FLOATS]
        a = [pair[0] for pair in pairs]
        b = [pair[1] for pair in pairs]
        self.assertLessEqual(len(pairs), 1000)
        for what in (0, 1):
            check_call(self, limits, (what, a, b), expected_limits(what, a, b))

    def test_each_pair_by_itself(self):
        for what in (0, 1):
            for x in FLOATS:
                for y in FLOATS:
                    self.assertEqual(limits(what, [x], [y]), expected_limits(what, [x], [y]), (what, x, y))


class LimitsRefusals(unittest.TestCase):
    def test_a_what_that_is_not_named(self):
        for what in (2, 3, 7, 8, 255, 256, 257, 2**31 - 1, 2**31, 2**31 + 1, 2**32 - 2, 2**32 - 1):
            with self.subTest(what=what):
                check_call(self, limits, (what, [ONE, HOLE], [TWO, HOLE]), [-1])

    def test_refused_without_rows_too(self):
        check_call(self, limits, (2, [], []), [-1])
        check_call(self, limits, (4294967295, [], []), [-1])

    def test_refused_with_1000_rows(self):
        column = long_column(1000)
        check_call(self, limits, (4294967295, column, column), [-1])


class LimitsSizes(unittest.TestCase):
    def test_no_rows(self):
        check_call(self, limits, (0, [], []), [0])
        check_call(self, limits, (1, [], []), [0])

    def test_1000_rows(self):
        a = long_column(1000)
        b = a[300:] + a[:300]
        for what in (0, 1):
            check_call(self, limits, (what, a, b), expected_limits(what, a, b))

    def test_all_holes_in_1000_rows(self):
        given = (0, [0xFFFFFFFF] * 1000, [HOLE] * 1000)
        check_call(self, limits, given, [1000] + [0xFFFFFFFF] * 1000)

    def test_one_list_handed_in_as_both(self):
        for what in (0, 1):
            same = list(FLOATS)
            self.assertEqual(limits(what, same, same), [len(HOLES)] + FLOATS)
            self.assertEqual(same, FLOATS)


if __name__ == "__main__":
    unittest.main()
