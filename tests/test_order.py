"""Promise 14: order."""

import itertools
import unittest

from helper import FLOATS, HOLES, NUMBERS, check_call, is_nan, long_column, value_of
from holecolumnsdesk.columns import order

ZERO, MINUS_ZERO = 0x00000000, 0x80000000
ONE, MINUS_ONE = 0x3F800000, 0xBF800000
TWO, MINUS_TWO = 0x40000000, 0xC0000000
INF, MINUS_INF = 0x7F800000, 0xFF800000
HOLE, MINUS_HOLE = 0x7FC00000, 0xFFC00000


def expected_order(a):
    """Each row's rank by counting the rows that belong ahead of it."""
    def ahead(i, j):
        if is_nan(a[i]) or is_nan(a[j]):
            return is_nan(a[j]) and (not is_nan(a[i]) or i < j)
        x, y = value_of(a[i]), value_of(a[j])
        return x < y or (x == y and i < j)

    places = [0] * len(a)
    for j in range(len(a)):
        places[sum(ahead(i, j) for i in range(len(a)))] = j
    return [len(a)] + places


class OrderNumbers(unittest.TestCase):
    def test_above_0(self):
        check_call(self, order, ([TWO, ONE, 0x40400000, 1],), [4, 3, 1, 0, 2])

    def test_below_0(self):
        check_call(self, order, ([MINUS_ONE, MINUS_TWO, 0x80000001],), [3, 1, 0, 2])

    def test_either_sign(self):
        check_call(self, order, ([ONE, MINUS_ONE, TWO, MINUS_TWO, ZERO],), [5, 3, 1, 4, 0, 2])

    def test_infinities(self):
        given = [INF, 0x7F7FFFFF, MINUS_INF, 0xFF7FFFFF, ZERO]
        check_call(self, order, (given,), [5, 2, 3, 4, 1, 0])

    def test_rising(self):
        rising = [MINUS_INF, MINUS_TWO, MINUS_ONE, 0x80000001, ZERO, 0x00000001, ONE, TWO, INF]
        check_call(self, order, (rising,), [9, 0, 1, 2, 3, 4, 5, 6, 7, 8])

    def test_falling(self):
        falling = [INF, TWO, ONE, 0x00000001, ZERO, 0x80000001, MINUS_ONE, MINUS_TWO, MINUS_INF]
        check_call(self, order, (falling,), [9, 8, 7, 6, 5, 4, 3, 2, 1, 0])


class OrderOfTheSame(unittest.TestCase):
    def test_the_same_number(self):
        check_call(self, order, ([ONE, ONE, ONE],), [3, 0, 1, 2])
        check_call(self, order, ([TWO, ONE, TWO, ONE, TWO],), [5, 1, 3, 0, 2, 4])
        check_call(self, order, ([MINUS_ONE, ONE, MINUS_ONE, ONE],), [4, 0, 2, 1, 3])

    def test_zeros(self):
        check_call(self, order, ([ZERO, MINUS_ZERO],), [2, 0, 1])
        check_call(self, order, ([MINUS_ZERO, ZERO],), [2, 0, 1])
        given = [ONE, ZERO, MINUS_ZERO, MINUS_ONE, ZERO, MINUS_ZERO]
        check_call(self, order, (given,), [6, 3, 1, 2, 4, 5, 0])

    def test_zeros_and_their_neighbours(self):
        given = [0x00000001, MINUS_ZERO, 0x80000001, ZERO, MINUS_ZERO]
        check_call(self, order, (given,), [5, 2, 1, 3, 4, 0])

    def test_infinities_several_times(self):
        check_call(self, order, ([INF, MINUS_INF, INF, MINUS_INF],), [4, 1, 3, 0, 2])


class OrderHoles(unittest.TestCase):
    def test_holes_last(self):
        check_call(self, order, ([HOLE, INF, MINUS_HOLE, MINUS_INF],), [4, 3, 1, 0, 2])

    def test_each_hole_before_each_number(self):
        for hole in HOLES:
            for number in NUMBERS:
                self.assertEqual(order([hole, number]), [2, 1, 0])
                self.assertEqual(order([number, hole]), [2, 0, 1])

    def test_holes_in_the_order_that_they_had(self):
        for x in HOLES:
            for y in HOLES:
                self.assertEqual(order([x, y]), [2, 0, 1])
                self.assertEqual(order([x, ONE, y]), [3, 1, 0, 2])

    def test_holes_alone(self):
        count = len(HOLES)
        check_call(self, order, (HOLES,), [count] + list(range(count)))
        check_call(self, order, (HOLES[::-1],), [count] + list(range(count)))

    def test_next_to_an_infinity(self):
        given = [0xFFFFFFFF, 0x7F800001, INF, 0xFF800001, MINUS_INF]
        check_call(self, order, (given,), [5, 4, 2, 0, 1, 3])


class OrderOverMany(unittest.TestCase):
    def test_every_pair_of_floats(self):
        for x in FLOATS:
            for y in FLOATS:
                self.assertEqual(order([x, y]), expected_order([x, y]), (x, y))

    def test_every_turn_of_few_rows(self):
        for rows in itertools.permutations([MINUS_ONE, MINUS_ZERO, ZERO, ONE, HOLE, MINUS_HOLE]):
            self.assertEqual(order(list(rows)), expected_order(rows))

    def test_every_float_in_either_direction(self):
        check_call(self, order, (FLOATS,), expected_order(FLOATS))
        check_call(self, order, (FLOATS[::-1],), expected_order(FLOATS[::-1]))


class OrderSizes(unittest.TestCase):
    def test_no_rows(self):
        check_call(self, order, ([],), [0])

    def test_one_row(self):
        for bits in FLOATS:
            check_call(self, order, ([bits],), [1, 0])

    def test_1000_rows(self):
        column = long_column(1000)
        check_call(self, order, (column,), expected_order(column))

    def test_1000_rows_rising_and_falling(self):
        rising = list(range(ONE, ONE + 1000))
        check_call(self, order, (rising,), [1000] + list(range(1000)))
        check_call(self, order, (rising[::-1],), [1000] + list(range(999, -1, -1)))
        below = list(range(MINUS_ONE, MINUS_ONE + 1000))
        check_call(self, order, (below,), [1000] + list(range(999, -1, -1)))

    def test_1000_rows_of_the_same(self):
        check_call(self, order, ([ONE] * 1000,), [1000] + list(range(1000)))
        check_call(self, order, ([0xFFFFFFFF] * 1000,), [1000] + list(range(1000)))
        check_call(self, order, ([ZERO, MINUS_ZERO] * 500,), [1000] + list(range(1000)))

    def test_what_was_handed_in_is_as_it_was(self):
        a = [TWO, HOLE, ONE]
        self.assertEqual(order(a), [3, 2, 0, 1])
        self.assertEqual(a, [TWO, HOLE, ONE])


if __name__ == "__main__":
    unittest.main()
