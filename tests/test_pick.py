"""Promise 5: pick."""

import unittest

from helper import FLOATS, FAR_PLACES, check_call, long_column
from holecolumnsdesk.columns import pick

MINUS_ZERO, ALL_BITS = 0x80000000, 0xFFFFFFFF


def expected_pick(other, a, places):
    rows = dict(enumerate(a))
    missing = sum(place not in rows for place in places)
    return [missing] + [rows.get(place, other) for place in places]


class PickPlaces(unittest.TestCase):
    a = [11, 12, 13]

    def test_every_row_once(self):
        check_call(self, pick, (9, self.a, [0, 1, 2]), [0, 11, 12, 13])
        check_call(self, pick, (9, self.a, [2, 0, 1]), [0, 13, 11, 12])

    def test_below_0(self):
        check_call(self, pick, (9, self.a, [-1, 0, -2, -3, -4]), [4, 9, 11, 9, 9, 9])
        check_call(self, pick, (9, self.a, [-2147483648]), [1, 9])

    def test_as_many_as_a_has_or_more(self):
        check_call(self, pick, (9, self.a, [2, 3, 4]), [2, 13, 9, 9])
        check_call(self, pick, (9, self.a, [2147483647]), [1, 9])

    def test_each_place_that_a_does_not_have(self):
        for place in FAR_PLACES:
            check_call(self, pick, (9, self.a, [0, place, 2]), [1, 11, 9, 13])

    def test_each_place_by_itself(self):
        for count in range(5):
            a = [20 + i for i in range(count)]
            for place in range(-7, 8):
                expected = [0, 20 + place] if 0 <= place < count else [1, 9]
                self.assertEqual(pick(9, a, [place]), expected)

    def test_the_same_place_several_times(self):
        given = (9, self.a, [1, 1, 0, 1, -1, -1, 3, 3])
        check_call(self, pick, given, [4, 12, 12, 11, 12, 9, 9, 9, 9])

    def test_more_places_than_rows(self):
        check_call(self, pick, (9, [7], [0, 0, 1, 0, -1]), [2, 7, 7, 9, 7, 9])

    def test_a_row_with_the_bits_of_other_is_not_counted(self):
        check_call(self, pick, (9, [9, 8, 9], [0, 1, 2]), [0, 9, 8, 9])
        check_call(self, pick, (9, [9, 8, 9], [0, 3, 2, -1]), [2, 9, 9, 9, 9])


class PickBitForBit(unittest.TestCase):
    def test_each_float_as_other(self):
        for bits in FLOATS:
            check_call(self, pick, (bits, [1], [-1, 0, 1]), [2, bits, 1, bits])

    def test_every_float_of_a(self):
        places = list(range(len(FLOATS)))
        check_call(self, pick, (1, FLOATS, places), [0] + FLOATS)
        check_call(self, pick, (1, FLOATS, places[::-1]), [0] + FLOATS[::-1])

    def test_minus_zero_and_holes(self):
        given = (ALL_BITS, [0, MINUS_ZERO, 0x7F800001], [2, 1, 0, 3])
        check_call(self, pick, given, [1, 0x7F800001, MINUS_ZERO, 0, ALL_BITS])


class PickSizes(unittest.TestCase):
    def test_nothing_at_all(self):
        check_call(self, pick, (9, [], []), [0])

    def test_no_rows_but_places(self):
        check_call(self, pick, (9, [], [0, -1, 1, 2147483647]), [4, 9, 9, 9, 9])

    def test_rows_but_no_places(self):
        check_call(self, pick, (9, [1, 2, 3], []), [0])

    def test_one_row(self):
        check_call(self, pick, (9, [ALL_BITS], [0]), [0, ALL_BITS])
        check_call(self, pick, (9, [ALL_BITS], [1]), [1, 9])
        check_call(self, pick, (9, [ALL_BITS], [-1]), [1, 9])

    def test_1000_rows(self):
        a = long_column(1000)
        places = [(i * 377) % 1400 - 200 for i in range(1000)]
        check_call(self, pick, (ALL_BITS, a, places), expected_pick(ALL_BITS, a, places))

    def test_the_edges_of_1000_rows(self):
        a = list(range(5000, 6000))
        check_call(self, pick, (1, a, [999, 1000, 0, -1, -1000]), [3, 5999, 1, 5000, 1, 1])

    def test_1000_places_in_few_rows(self):
        check_call(self, pick, (9, [7], [0] * 1000), [0] + [7] * 1000)
        check_call(self, pick, (9, [7], [1] * 1000), [1000] + [9] * 1000)
        check_call(self, pick, (9, [], [0] * 1000), [1000] + [9] * 1000)

    def test_one_list_handed_in_as_both(self):
        same = [2, 0, 5]
        self.assertEqual(pick(9, same, same), [1, 5, 2, 9])
        self.assertEqual(same, [2, 0, 5])

    def test_the_answer_is_a_list_of_its_own(self):
        a, places = [1, 2], [0, 1]
        answer = pick(9, a, places)
        answer[1] = 99
        self.assertEqual((a, places), ([1, 2], [0, 1]))


if __name__ == "__main__":
    unittest.main()
