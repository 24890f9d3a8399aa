"""Promise 10: hold."""

import unittest

from helper import FLOATS, HOLES, NUMBERS, check_call, is_nan, long_column
from holecolumnsdesk.columns import hold

ZERO, MINUS_ZERO = 0x00000000, 0x80000000
ONE, TWO = 0x3F800000, 0x40000000
INF, MINUS_INF = 0x7F800000, 0xFF800000
HOLE, MINUS_HOLE = 0x7FC00000, 0xFFC00000


def expected_hold(a):
    """Look back from each hole for itself."""
    rows, filled = [], 0
    for place, bits in enumerate(a):
        before = [x for x in a[:place] if not is_nan(x)]
        if is_nan(bits) and before:
            rows.append(before[-1])
            filled += 1
        else:
            rows.append(bits)
    return [filled] + rows


class HoldRows(unittest.TestCase):
    def test_no_hole(self):
        check_call(self, hold, (NUMBERS,), [0] + NUMBERS)

    def test_holes_alone(self):
        check_call(self, hold, (HOLES,), [0] + HOLES)

    def test_holes_ahead_of_the_first_number(self):
        check_call(self, hold, ([HOLE, 0xFFFFFFFF, ONE],), [0, HOLE, 0xFFFFFFFF, ONE])
        check_call(self, hold, (HOLES + [ONE],), [0] + HOLES + [ONE])

    def test_one_hole_behind_a_number(self):
        check_call(self, hold, ([ONE, HOLE, TWO],), [1, ONE, ONE, TWO])

    def test_several_holes_behind_a_number(self):
        check_call(self, hold, ([ONE] + HOLES + [TWO],), [len(HOLES)] + [ONE] * (len(HOLES) + 1) + [TWO])

    def test_holes_at_the_end(self):
        check_call(self, hold, ([ONE, TWO, HOLE],), [1, ONE, TWO, TWO])
        check_call(self, hold, ([ONE, TWO, HOLE, MINUS_HOLE],), [2, ONE, TWO, TWO, TWO])

    def test_the_nearest_number_is_taken(self):
        given = [ONE, HOLE, TWO, HOLE, HOLE, INF, HOLE]
        check_call(self, hold, (given,), [4, ONE, ONE, TWO, TWO, TWO, INF, INF])

    def test_ahead_and_between_and_at_the_end(self):
        given = [0x7F800001, 0xFF800001, ONE, 0xFFFFFFFF, TWO, 0x7FFFFFFF]
        check_call(self, hold, (given,), [2, 0x7F800001, 0xFF800001, ONE, ONE, TWO, TWO])


class HoldBitForBit(unittest.TestCase):
    def test_zeros_are_numbers(self):
        given = [ONE, MINUS_ZERO, HOLE, ZERO, HOLE, MINUS_ZERO, HOLE]
        check_call(self, hold, (given,), [3, ONE, MINUS_ZERO, MINUS_ZERO, ZERO, ZERO, MINUS_ZERO, MINUS_ZERO])
        check_call(self, hold, ([ZERO, HOLE, HOLE],), [2, ZERO, ZERO, ZERO])

    def test_infinities_are_numbers(self):
        given = [ONE, INF, 0x7F800001, MINUS_INF, 0xFF800001]
        check_call(self, hold, (given,), [2, ONE, INF, INF, MINUS_INF, MINUS_INF])

    def test_each_pair(self):
        for x in FLOATS:
            for y in FLOATS:
                filled = is_nan(y) and not is_nan(x)
                self.assertEqual(hold([x, y]), [1, x, x] if filled else [0, x, y])

    def test_each_hole_between_two_numbers(self):
        for hole in HOLES:
            check_call(self, hold, ([ONE, hole, TWO],), [1, ONE, ONE, TWO])
            check_call(self, hold, ([hole, ONE, hole],), [1, hole, ONE, ONE])


class HoldSizes(unittest.TestCase):
    def test_no_rows(self):
        check_call(self, hold, ([],), [0])

    def test_one_row(self):
        for bits in FLOATS:
            check_call(self, hold, ([bits],), [0, bits])

    def test_1000_rows(self):
        column = long_column(1000)
        check_call(self, hold, (column,), expected_hold(column))
        column = HOLES + column[:980] + HOLES
        check_call(self, hold, (column,), expected_hold(column))

    def test_one_number_held_over_1000_rows(self):
        check_call(self, hold, ([MINUS_ZERO] + [HOLE] * 999,), [999] + [MINUS_ZERO] * 1000)

    def test_1000_rows_of_holes(self):
        check_call(self, hold, ([0xFFFFFFFF] * 1000,), [0] + [0xFFFFFFFF] * 1000)
        check_call(self, hold, ([0xFFFFFFFF] * 999 + [ONE],), [0] + [0xFFFFFFFF] * 999 + [ONE])

    def test_nothing_is_held_over_from_the_call_before(self):
        self.assertEqual(hold([ONE]), [0, ONE])
        self.assertEqual(hold([HOLE]), [0, HOLE])

    def test_what_was_handed_in_is_as_it_was(self):
        a = [ONE, HOLE]
        self.assertEqual(hold(a), [1, ONE, ONE])
        self.assertEqual(a, [ONE, HOLE])


if __name__ == "__main__":
    unittest.main()
