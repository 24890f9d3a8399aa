"""Promise 8: choose."""

import unittest

from helper import FLOATS, HOLES, check_call, long_column, long_mask
from holecolumnsdesk.columns import choose

MINUS_ZERO, ALL_BITS = 0x80000000, 0xFFFFFFFF


class ChooseRows(unittest.TestCase):
    a = [11, 12, 13, 14]
    b = [21, 22, 23, 24]

    def test_some_set(self):
        check_call(self, choose, ([0, 1, 1, 0], self.a, self.b), [0, 21, 12, 13, 24])

    def test_none_set(self):
        check_call(self, choose, ([0] * 4, self.a, self.b), [0] + self.b)

    def test_all_set(self):
        check_call(self, choose, ([1] * 4, self.a, self.b), [0] + self.a)

    def test_every_mask_of_four_bits(self):
        for n in range(16):
            mask = [n >> i & 1 for i in range(4)]
            rows = [(21 - 10 * mask[i]) + i for i in range(4)]
            check_call(self, choose, (mask, self.a, self.b), [0] + rows)

    def test_a_hole_is_not_passed_over(self):
        check_call(self, choose, ([1, 0], [0x7FC00000, 1], [2, 0xFFC00001]), [0, 0x7FC00000, 0xFFC00001])


class ChooseBitForBit(unittest.TestCase):
    def test_every_pair_of_floats(self):
        for x in FLOATS:
            for y in FLOATS:
                self.assertEqual(choose([1, 0], [x, x], [y, y]), [0, x, y])

    def test_minus_zero_and_zero(self):
        given = ([1, 0, 1, 0], [MINUS_ZERO, MINUS_ZERO, 0, 0], [0, 0, MINUS_ZERO, MINUS_ZERO])
        check_call(self, choose, given, [0, MINUS_ZERO, 0, 0, MINUS_ZERO])

    def test_holes_alone(self):
        turned = HOLES[::-1]
        check_call(self, choose, ([1] * len(HOLES), HOLES, turned), [0] + HOLES)
        check_call(self, choose, ([0] * len(HOLES), HOLES, turned), [0] + turned)


class ChooseSizes(unittest.TestCase):
    def test_no_rows(self):
        check_call(self, choose, ([], [], []), [0])

    def test_one_row(self):
        check_call(self, choose, ([1], [ALL_BITS], [MINUS_ZERO]), [0, ALL_BITS])
        check_call(self, choose, ([0], [ALL_BITS], [MINUS_ZERO]), [0, MINUS_ZERO])

    def test_1000_rows(self):
        mask, a = long_mask(1000), long_column(1000)
        b = a[300:] + a[:300]
        rows = [a[i] if mask[i] else b[i] for i in range(1000)]
        check_call(self, choose, (mask, a, b), [0] + rows)

    def test_all_and_none_of_1000_rows(self):
        a, b = long_column(1000), long_column(1000)[::-1]
        check_call(self, choose, ([1] * 1000, a, b), [0] + a)
        check_call(self, choose, ([0] * 1000, a, b), [0] + b)

    def test_one_list_handed_in_as_all(self):
        same = [1, 0, 1]
        self.assertEqual(choose(same, same, same), [0, 1, 0, 1])
        self.assertEqual(same, [1, 0, 1])

    def test_the_answer_is_a_list_of_its_own(self):
        mask, a, b = [1, 1], [1, 2], [3, 4]
        answer = choose(mask, a, b)
        answer[1] = 99
        self.assertEqual((mask, a, b), ([1, 1], [1, 2], [3, 4]))


if __name__ == "__main__":
    unittest.main()
