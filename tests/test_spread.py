"""Promise 4: spread."""

import unittest

from helper import FLOATS, HOLES, check_call, long_column, long_mask
from holecolumnsdesk.columns import pack, spread

MINUS_ZERO, INF, ALL_BITS = 0x80000000, 0x7F800000, 0xFFFFFFFF


class SpreadRows(unittest.TestCase):
    def test_some_set(self):
        check_call(self, spread, (9, [11, 12, 13], [0, 1, 1, 0, 1]), [3, 9, 11, 12, 9, 13])

    def test_none_set(self):
        check_call(self, spread, (9, [], [0, 0, 0]), [0, 9, 9, 9])

    def test_all_set(self):
        check_call(self, spread, (9, FLOATS, [1] * len(FLOATS)), [len(FLOATS)] + FLOATS)

    def test_first_and_last(self):
        check_call(self, spread, (9, [5], [1, 0, 0]), [1, 5, 9, 9])
        check_call(self, spread, (9, [5], [0, 0, 1]), [1, 9, 9, 5])

    def test_the_order_stays(self):
        check_call(self, spread, (0, [7, 3, 5], [1, 0, 1, 1]), [3, 7, 0, 3, 5])

    def test_rows_with_the_bits_of_other_count_by_the_mask(self):
        check_call(self, spread, (4, [4, 4], [1, 0, 1, 0]), [2, 4, 4, 4, 4])

    def test_every_mask_of_five_bits(self):
        for n in range(32):
            mask = [n >> i & 1 for i in range(5)]
            source = [20 + i for i in range(sum(mask))]
            rows = [20 + sum(mask[:i]) if mask[i] else 9 for i in range(5)]
            check_call(self, spread, (9, source, mask), [sum(mask)] + rows)


class SpreadBitForBit(unittest.TestCase):
    def test_each_float_as_other(self):
        for bits in FLOATS:
            check_call(self, spread, (bits, [1], [0, 1, 0]), [1, bits, 1, bits])

    def test_each_float_in_source(self):
        for bits in FLOATS:
            check_call(self, spread, (1, [bits], [0, 1, 0]), [1, 1, bits, 1])

    def test_holes_and_minus_zero_on_both_sides(self):
        given = (ALL_BITS, [MINUS_ZERO, 0, ALL_BITS, 0x7F800001], [1, 0, 1, 1, 0, 1])
        check_call(self, spread, given, [4, MINUS_ZERO, ALL_BITS, 0, ALL_BITS, ALL_BITS, 0x7F800001])
        given = (MINUS_ZERO, [INF, 0xFF800001], [0, 1, 0, 1])
        check_call(self, spread, given, [2, MINUS_ZERO, INF, MINUS_ZERO, 0xFF800001])

    def test_holes_alone(self):
        given = (0xFFC00000, HOLES, [1] * len(HOLES) + [0])
        check_call(self, spread, given, [len(HOLES)] + HOLES + [0xFFC00000])


class SpreadSizes(unittest.TestCase):
    def test_no_rows(self):
        for other in (0, MINUS_ZERO, ALL_BITS):
            check_call(self, spread, (other, [], []), [0])

    def test_one_row(self):
        check_call(self, spread, (ALL_BITS, [], [0]), [0, ALL_BITS])
        check_call(self, spread, (ALL_BITS, [MINUS_ZERO], [1]), [1, MINUS_ZERO])

    def test_1000_rows(self):
        mask = long_mask(1000)
        source = long_column(sum(mask))
        rest = iter(source)
        rows = [next(rest) if bit else ALL_BITS for bit in mask]
        check_call(self, spread, (ALL_BITS, source, mask), [sum(mask)] + rows)

    def test_all_and_none_of_1000_rows(self):
        column = long_column(1000)
        check_call(self, spread, (5, column, [1] * 1000), [1000] + column)
        check_call(self, spread, (5, [], [0] * 1000), [0] + [5] * 1000)

    def test_what_pack_took_out_comes_back(self):
        column, mask = long_column(1000), long_mask(1000)
        rows = [x if bit else 6 for x, bit in zip(column, mask)]
        self.assertTrue(spread(6, pack(column, mask)[1:], mask)[1:] == rows)

    def test_one_list_handed_in_as_both(self):
        same = [1, 1, 1]
        self.assertEqual(spread(0, same, same), [3, 1, 1, 1])
        self.assertEqual(same, [1, 1, 1])


if __name__ == "__main__":
    unittest.main()
