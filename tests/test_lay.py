"""Promise 6: lay."""

import unittest

from helper import FLOATS, FAR_PLACES, check_call, long_column
from holecolumnsdesk.columns import lay

MINUS_ZERO, ALL_BITS = 0x80000000, 0xFFFFFFFF


def expected_lay(a, places, source):
    rows = dict(enumerate(a))
    laid = 0
    for place, row in zip(places, source):
        if place in rows:
            rows[place] = row
            laid += 1
    return [laid] + [rows[place] for place in range(len(a))]


class LayPlaces(unittest.TestCase):
    a = [11, 12, 13]

    def test_some_rows(self):
        check_call(self, lay, (self.a, [2, 0], [21, 22]), [2, 22, 12, 21])

    def test_every_row(self):
        check_call(self, lay, (self.a, [1, 2, 0], [21, 22, 23]), [3, 23, 21, 22])

    def test_the_last_one_stays_and_each_one_counts(self):
        check_call(self, lay, (self.a, [1, 1], [21, 22]), [2, 11, 22, 13])
        check_call(self, lay, (self.a, [1, 0, 1, 0, 1], [21, 22, 23, 24, 25]), [5, 24, 25, 13])

    def test_the_same_bits_laid_over_count(self):
        check_call(self, lay, (self.a, [0, 0, 2], [11, 11, 13]), [3, 11, 12, 13])

    def test_below_0_is_nothing(self):
        check_call(self, lay, (self.a, [-1, -2, -3, -4, -2147483648], [1, 2, 3, 4, 5]), [0, 11, 12, 13])

    def test_as_many_as_a_has_or_more_is_nothing(self):
        check_call(self, lay, (self.a, [3, 4, 2147483647], [1, 2, 3]), [0, 11, 12, 13])

    def test_each_place_that_a_does_not_have(self):
        for place in FAR_PLACES:
            check_call(self, lay, (self.a, [0, place, 2], [1, 2, 3]), [2, 1, 12, 3])

    def test_each_place_by_itself(self):
        for count in range(5):
            a = [20 + i for i in range(count)]
            for place in range(-7, 8):
                self.assertEqual(lay(a, [place], [9]), expected_lay(a, [place], [9]))

    def test_a_row_behind_nothing_is_its_own(self):
        check_call(self, lay, (self.a, [-1, 1, 3, 0], [1, 2, 3, 4]), [2, 4, 2, 13])

    def test_more_places_than_rows(self):
        check_call(self, lay, ([7], [0, 1, 0, -1, 0], [1, 2, 3, 4, 5]), [3, 5])


class LayBitForBit(unittest.TestCase):
    def test_each_float_laid_and_laid_over(self):
        for bits in FLOATS:
            check_call(self, lay, ([1, 2], [1], [bits]), [1, 1, bits])
            check_call(self, lay, ([bits, bits], [1], [3]), [1, bits, 3])

    def test_every_float_at_once(self):
        turned = FLOATS[::-1]
        given = (FLOATS, list(range(len(FLOATS))), turned)
        check_call(self, lay, given, [len(FLOATS)] + turned)

    def test_minus_zero_and_holes(self):
        given = ([0, MINUS_ZERO, ALL_BITS], [0, 1], [MINUS_ZERO, 0xFF800001])
        check_call(self, lay, given, [2, MINUS_ZERO, 0xFF800001, ALL_BITS])


class LaySizes(unittest.TestCase):
    def test_nothing_at_all(self):
        check_call(self, lay, ([], [], []), [0])

    def test_no_rows_but_places(self):
        check_call(self, lay, ([], [0, -1, 1, 2147483647], [1, 2, 3, 4]), [0])

    def test_rows_but_no_places(self):
        check_call(self, lay, (FLOATS, [], []), [0] + FLOATS)

    def test_one_row(self):
        check_call(self, lay, ([7], [0], [ALL_BITS]), [1, ALL_BITS])
        check_call(self, lay, ([7], [1], [ALL_BITS]), [0, 7])
        check_call(self, lay, ([7], [-1], [ALL_BITS]), [0, 7])

    def test_1000_rows(self):
        a = long_column(1000)
        source = a[123:] + a[:123]
        places = [(i * 377) % 1400 - 200 for i in range(1000)]
        check_call(self, lay, (a, places, source), expected_lay(a, places, source))

    def test_1000_times_the_same_place(self):
        check_call(self, lay, ([5, 6], [1] * 1000, list(range(1000))), [1000, 5, 999])

    def test_the_edges_of_1000_rows(self):
        a = [4] * 1000
        given = (a, [999, 1000, 0, -1, -1000], [1, 2, 3, 5, 6])
        check_call(self, lay, given, [2, 3] + [4] * 998 + [1])

    def test_what_was_handed_in_is_as_it_was(self):
        a, places, source = [1, 2, 3], [0, 2, 0], [7, 8, 9]
        answer = lay(a, places, source)
        self.assertEqual(answer, [3, 9, 2, 8])
        self.assertEqual((a, places, source), ([1, 2, 3], [0, 2, 0], [7, 8, 9]))

    def test_one_list_handed_in_as_all(self):
        same = [1, 2, 0]
        self.assertEqual(lay(same, same, same), [3, 0, 1, 2])
        self.assertEqual(same, [1, 2, 0])


if __name__ == "__main__":
    unittest.main()
