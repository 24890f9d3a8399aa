"""Promise 2: masks."""

import unittest

from helper import check_call, long_mask
from holecolumnsdesk.columns import masks

# For the pairs of bits (0, 0), (0, 1), (1, 0), (1, 1), what by what.
TABLE = {
    0: [0, 0, 0, 1],
    1: [0, 1, 1, 1],
    2: [0, 0, 1, 0],
    3: [0, 1, 1, 0],
    4: [1, 0, 0, 0],
}


def expected_masks(what, a, b):
    bits = [TABLE[what][2 * x + y] for x, y in zip(a, b)]
    return [sum(bits)] + bits


class MasksBitByBit(unittest.TestCase):
    a = [0, 0, 1, 1]
    b = [0, 1, 0, 1]

    def test_a_and_b(self):
        check_call(self, masks, (0, self.a, self.b), [1, 0, 0, 0, 1])

    def test_a_or_b(self):
        check_call(self, masks, (1, self.a, self.b), [3, 0, 1, 1, 1])

    def test_a_and_not_b(self):
        check_call(self, masks, (2, self.a, self.b), [1, 0, 0, 1, 0])

    def test_one_alone(self):
        check_call(self, masks, (3, self.a, self.b), [2, 0, 1, 1, 0])

    def test_neither(self):
        check_call(self, masks, (4, self.a, self.b), [1, 1, 0, 0, 0])

    def test_every_two_masks_of_four_bits(self):
        every = [[n >> 3 & 1, n >> 2 & 1, n >> 1 & 1, n & 1] for n in range(16)]
        for what in range(5):
            for a in every:
                for b in every:
                    self.assertEqual(masks(what, a, b), expected_masks(what, a, b))


class MasksRefusals(unittest.TestCase):
    def test_a_what_that_is_not_named(self):
        for what in (5, 6, 7, 8, 255, 256, 260, 2**31 - 1, 2**31, 2**32 - 5, 2**32 - 1):
            with self.subTest(what=what):
                check_call(self, masks, (what, [0, 1], [1, 1]), [-1])

    def test_refused_without_rows_too(self):
        check_call(self, masks, (5, [], []), [-1])
        check_call(self, masks, (4294967295, [], []), [-1])

    def test_refused_with_1000_rows(self):
        check_call(self, masks, (4294967295, long_mask(1000), long_mask(1000)), [-1])


class MasksSizes(unittest.TestCase):
    def test_no_rows(self):
        for what in range(5):
            check_call(self, masks, (what, [], []), [0])

    def test_one_row(self):
        for what in range(5):
            for x in (0, 1):
                for y in (0, 1):
                    bit = TABLE[what][2 * x + y]
                    check_call(self, masks, (what, [x], [y]), [bit, bit])

    def test_1000_rows(self):
        a = long_mask(1000)
        b = a[1:] + a[:1]
        for what in range(5):
            check_call(self, masks, (what, a, b), expected_masks(what, a, b))

    def test_all_and_none_of_1000_rows(self):
        check_call(self, masks, (0, [1] * 1000, [1] * 1000), [1000] + [1] * 1000)
        check_call(self, masks, (4, [1] * 1000, [1] * 1000), [0] + [0] * 1000)

    def test_one_list_handed_in_as_both(self):
        for what in range(5):
            same = [0, 1, 1]
            self.assertEqual(masks(what, same, same), expected_masks(what, same, same))
            self.assertEqual(same, [0, 1, 1])


if __name__ == "__main__":
    unittest.main()
