"""Promise 11: find."""

import itertools
import unittest

from helper import FLOATS, HOLES, NUMBERS, check_call, is_nan, long_column, long_mask, value_of
from holecolumnsdesk.columns import find

ZERO, MINUS_ZERO = 0x00000000, 0x80000000
ONE, MINUS_ONE = 0x3F800000, 0xBF800000
TWO, MINUS_TWO = 0x40000000, 0xC0000000
INF, MINUS_INF = 0x7F800000, 0xFF800000
HOLE, MINUS_HOLE = 0x7FC00000, 0xFFC00000


def expected_find(what, a, mask):
    """The document's words over Python's own floats."""
    places = [i for i in range(len(a)) if mask[i] == 1 and not is_nan(a[i])]
    if not places:
        return [0]
    values = [value_of(a[i]) for i in places]
    sought = max(values) if what else min(values)
    return [1, places[values.index(sought)]]


class FindByHand(unittest.TestCase):
    def check(self, a, least, greatest, mask=None):
        mask = [1] * len(a) if mask is None else mask
        check_call(self, find, (0, a, mask), [1, least])
        check_call(self, find, (1, a, mask), [1, greatest])

    def test_above_0(self):
        self.check([TWO, ONE, 0x40400000], 1, 2)

    def test_below_0(self):
        self.check([MINUS_ONE, MINUS_TWO, 0x80000001], 1, 2)

    def test_either_sign(self):
        self.check([ONE, MINUS_TWO, TWO, MINUS_ONE], 1, 2)

    def test_infinities(self):
        self.check([0x7F7FFFFF, INF, 0xFF7FFFFF, MINUS_INF], 3, 1)
        self.check([INF, INF], 0, 0)
        self.check([MINUS_INF, ONE], 0, 1)

    def test_of_several_the_first(self):
        self.check([ONE, TWO, MINUS_ONE, TWO, MINUS_ONE, ONE], 2, 1)
        self.check([ONE, ONE, ONE], 0, 0)

    def test_zeros_are_the_same_number(self):
        self.check([MINUS_ZERO, ZERO], 0, 0)
        self.check([ZERO, MINUS_ZERO], 0, 0)
        self.check([ONE, ZERO, MINUS_ZERO, ZERO], 1, 0)
        self.check([MINUS_ONE, MINUS_ZERO, ZERO, MINUS_ZERO], 0, 1)
        self.check([MINUS_ONE, ZERO, MINUS_ZERO], 0, 1)
        self.check([ONE, MINUS_ZERO, ZERO], 1, 0)

    def test_zeros_and_their_neighbours(self):
        self.check([ZERO, 0x80000001, 0x00000001, MINUS_ZERO], 1, 2)

    def test_holes_are_passed_over(self):
        self.check([HOLE, ONE, MINUS_HOLE, TWO, 0xFFFFFFFF], 1, 3)
        self.check([0x7F800001, TWO, 0xFF800001, ONE, HOLE], 3, 1)
        self.check(HOLES + [ONE], len(HOLES), len(HOLES))
        self.check([ONE] + HOLES, 0, 0)

    def test_rows_whose_bit_is_not_set_are_passed_over(self):
        self.check([MINUS_INF, ONE, INF, TWO], 1, 3, [0, 1, 0, 1])
        self.check([INF, ONE, MINUS_INF, TWO], 1, 3, [0, 1, 0, 1])
        self.check([ONE, ONE, ONE], 2, 2, [0, 0, 1])

    def test_holes_and_bits_together(self):
        self.check([HOLE, MINUS_TWO, ONE, HOLE, TWO], 2, 4, [1, 0, 1, 1, 1])

    def test_place_0_is_found(self):
        self.check([ONE, TWO], 0, 0, [1, 0])


class FindNone(unittest.TestCase):
    def check_none(self, a, mask):
        check_call(self, find, (0, a, mask), [0])
        check_call(self, find, (1, a, mask), [0])

    def test_no_bit_set(self):
        self.check_none(FLOATS, [0] * len(FLOATS))

    def test_holes_alone(self):
        self.check_none(HOLES, [1] * len(HOLES))

    def test_the_numbers_have_no_bit(self):
        self.check_none([HOLE, ONE, 0xFFFFFFFF, TWO], [1, 0, 1, 0])

    def test_no_rows(self):
        self.check_none([], [])

    def test_one_row(self):
        self.check_none([ONE], [0])
        for hole in HOLES:
            self.check_none([hole], [1])

    def test_1000_rows(self):
        self.check_none([ONE] * 1000, [0] * 1000)
        self.check_none([0xFFFFFFFF] * 1000, [1] * 1000)


class FindOverMany(unittest.TestCase):
    def test_every_pair_of_floats(self):
        for what in (0, 1):
            for x in FLOATS:
                for y in FLOATS:
                    self.assertEqual(find(what, [x, y], [1, 1]), expected_find(what, [x, y], [1, 1]), (what, x, y))

    def test_every_mask_over_few_rows(self):
        rows = [ONE, HOLE, MINUS_ZERO, ZERO, MINUS_INF]
        for what in (0, 1):
            for mask in itertools.product([0, 1], repeat=5):
                for turn in range(5):
                    a = rows[turn:] + rows[:turn]
                    check_call(self, find, (what, a, list(mask)), expected_find(what, a, mask))

    def test_one_row(self):
        for what in (0, 1):
            for bits in NUMBERS:
                check_call(self, find, (what, [bits], [1]), [1, 0])

    def test_1000_rows(self):
        a = long_column(1000)
        for what in (0, 1):
            for mask in (long_mask(1000), [1] * 1000, [0] * 999 + [1], [0] * 500 + [1] * 500):
                check_call(self, find, (what, a, mask), expected_find(what, a, mask))

    def test_the_last_of_1000_rows(self):
        check_call(self, find, (0, [TWO] * 999 + [ONE], [1] * 1000), [1, 999])
        check_call(self, find, (1, [ONE] * 999 + [TWO], [1] * 1000), [1, 999])

    def test_one_list_handed_in_as_both(self):
        same = [0, 1, 1]
        self.assertEqual(find(0, same, same), [1, 1])
        self.assertEqual(same, [0, 1, 1])


class FindRefusals(unittest.TestCase):
    def test_a_what_that_is_not_named(self):
        for what in (2, 3, 7, 8, 255, 256, 257, 2**31 - 1, 2**31, 2**31 + 1, 2**32 - 2, 2**32 - 1):
            with self.subTest(what=what):
                check_call(self, find, (what, [ONE, HOLE], [1, 1]), [-1])

    def test_refused_without_a_row_left_too(self):
        for what in (2, 4294967295):
            check_call(self, find, (what, [], []), [-1])
            check_call(self, find, (what, [ONE], [0]), [-1])
            check_call(self, find, (what, [HOLE], [1]), [-1])

    def test_refused_with_1000_rows(self):
        check_call(self, find, (4294967295, long_column(1000), long_mask(1000)), [-1])


if __name__ == "__main__":
    unittest.main()
