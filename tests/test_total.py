"""Promise 12: total."""

import unittest

from helper import WHOLES, check_call, long_mask, long_wholes
from holecolumnsdesk.columns import total

LEAST, MOST = -2147483648, 2147483647


class TotalRows(unittest.TestCase):
    def test_some_set(self):
        check_call(self, total, ([1, 20, 300, 4000], [0, 1, 1, 0]), [2, 320])

    def test_none_set(self):
        check_call(self, total, (WHOLES, [0] * len(WHOLES)), [0, 0])

    def test_all_set(self):
        check_call(self, total, ([1, 20, -300, 4000], [1, 1, 1, 1]), [4, 3721])

    def test_first_and_last(self):
        check_call(self, total, ([5, 6, 7], [1, 0, 0]), [1, 5])
        check_call(self, total, ([5, 6, 7], [0, 0, 1]), [1, 7])

    def test_rows_of_0_count(self):
        check_call(self, total, ([0, 0, 0], [1, 0, 1]), [2, 0])

    def test_rows_that_cancel_out(self):
        check_call(self, total, ([5, -5], [1, 1]), [2, 0])

    def test_every_mask_of_five_bits(self):
        for n in range(32):
            mask = [n >> i & 1 for i in range(5)]
            a = [10**i for i in range(5)]
            check_call(self, total, (a, mask), [sum(mask), sum(x * bit for x, bit in zip(a, mask))])


class TotalIsExact(unittest.TestCase):
    def test_beyond_the_most(self):
        check_call(self, total, ([MOST, 1], [1, 1]), [2, 2147483648])
        check_call(self, total, ([MOST, MOST, MOST], [1, 1, 1]), [3, 6442450941])

    def test_below_the_least(self):
        check_call(self, total, ([LEAST, -1], [1, 1]), [2, -2147483649])
        check_call(self, total, ([LEAST, LEAST], [1, 1]), [2, -4294967296])

    def test_beyond_and_back(self):
        check_call(self, total, ([MOST, MOST, LEAST, LEAST], [1, 1, 1, 1]), [4, -2])

    def test_1000_rows_of_the_most(self):
        check_call(self, total, ([MOST] * 1000, [1] * 1000), [1000, 2147483647000])

    def test_1000_rows_of_the_least(self):
        check_call(self, total, ([LEAST] * 1000, [1] * 1000), [1000, -2147483648000])

    def test_every_pair_at_the_edges(self):
        for x in WHOLES:
            for y in WHOLES:
                self.assertEqual(total([x, y], [1, 1]), [2, x + y])
                self.assertEqual(total([x, y], [0, 1]), [1, y])


class TotalSizes(unittest.TestCase):
    def test_no_rows(self):
        check_call(self, total, ([], []), [0, 0])

    def test_one_row(self):
        for number in WHOLES:
            check_call(self, total, ([number], [1]), [1, number])
            check_call(self, total, ([number], [0]), [0, 0])

    def test_1000_rows(self):
        a, mask = long_wholes(1000), long_mask(1000)
        expected = 0
        for number, bit in zip(a, mask):
            expected += number * bit
        check_call(self, total, (a, mask), [mask.count(1), expected])

    def test_none_of_1000_rows(self):
        check_call(self, total, (long_wholes(1000), [0] * 1000), [0, 0])

    def test_one_list_handed_in_as_both(self):
        same = [1, 0, 1]
        self.assertEqual(total(same, same), [2, 2])
        self.assertEqual(same, [1, 0, 1])


if __name__ == "__main__":
    unittest.main()
