"""Promise 3: pack."""

import unittest

from helper import FLOATS, HOLES, check_call, long_column, long_mask
from holecolumnsdesk.columns import pack


class PackRows(unittest.TestCase):
    def test_some_set(self):
        check_call(self, pack, ([11, 12, 13, 14, 15], [0, 1, 1, 0, 1]), [3, 12, 13, 15])

    def test_none_set(self):
        check_call(self, pack, (FLOATS, [0] * len(FLOATS)), [0])

    def test_all_set(self):
        check_call(self, pack, (FLOATS, [1] * len(FLOATS)), [len(FLOATS)] + FLOATS)

    def test_first_and_last(self):
        check_call(self, pack, ([5, 6, 7], [1, 0, 0]), [1, 5])
        check_call(self, pack, ([5, 6, 7], [0, 0, 1]), [1, 7])

    def test_the_order_stays(self):
        check_call(self, pack, ([9, 3, 7, 1], [1, 1, 0, 1]), [3, 9, 3, 1])

    def test_rows_that_are_alike_stay_apart(self):
        check_call(self, pack, ([4, 4, 8, 4], [1, 1, 1, 1]), [4, 4, 4, 8, 4])

    def test_holes_and_minus_zero_bit_for_bit(self):
        a = [0x80000000, 0x00000000, 0xFFFFFFFF, 0x7F800001, 0x80000000, 0xFF800001]
        mask = [1, 1, 1, 1, 0, 1]
        expected = [5, 0x80000000, 0x00000000, 0xFFFFFFFF, 0x7F800001, 0xFF800001]
        check_call(self, pack, (a, mask), expected)

    def test_each_float_by_itself(self):
        for bits in FLOATS:
            check_call(self, pack, ([bits], [1]), [1, bits])
            check_call(self, pack, ([bits], [0]), [0])

    def test_holes_alone(self):
        turned = list(reversed(HOLES))
        check_call(self, pack, (turned, [1] * len(turned)), [len(turned)] + turned)


class PackSizes(unittest.TestCase):
    def test_no_rows(self):
        check_call(self, pack, ([], []), [0])

    def test_1000_rows(self):
        a, mask = long_column(1000), long_mask(1000)
        rows = [a[i] for i in range(1000) if mask[i]]
        check_call(self, pack, (a, mask), [len(rows)] + rows)

    def test_all_and_none_of_1000_rows(self):
        a = long_column(1000)
        check_call(self, pack, (a, [1] * 1000), [1000] + a)
        check_call(self, pack, (a, [0] * 1000), [0])

    def test_the_answer_is_a_list_of_its_own(self):
        a, mask = [1, 2], [1, 1]
        answer = pack(a, mask)
        answer[1] = 99
        self.assertEqual((a, mask), ([1, 2], [1, 1]))


if __name__ == "__main__":
    unittest.main()
