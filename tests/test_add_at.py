"""Promise 7: add_at."""

import unittest

from helper import FAR_PLACES, WHOLES, check_call, long_wholes
from holecolumnsdesk.columns import add_at

LEAST, MOST = -2147483648, 2147483647


def expected_sum(x, y):
    total = x + y
    if total > MOST:
        return total - 2**32
    if total < LEAST:
        return total + 2**32
    return total


def expected_add_at(a, places, source):
    rows = dict(enumerate(a))
    added = 0
    for place, number in zip(places, source):
        if place in rows:
            rows[place] = expected_sum(rows[place], number)
            added += 1
    return [added] + [rows[place] for place in range(len(a))]


class AddAtPlaces(unittest.TestCase):
    a = [11, -12, 13]

    def test_some_rows(self):
        check_call(self, add_at, (self.a, [2, 0], [100, -200]), [2, -189, -12, 113])

    def test_every_row(self):
        check_call(self, add_at, (self.a, [1, 2, 0], [1, 2, 3]), [3, 14, -11, 15])

    def test_the_same_place_several_times(self):
        check_call(self, add_at, (self.a, [1, 1, 1], [5, 7, 100]), [3, 11, 100, 13])
        check_call(self, add_at, (self.a, [1, 0, 1, 0], [1, 2, 3, 4]), [4, 17, -8, 13])

    def test_0_added_counts(self):
        check_call(self, add_at, (self.a, [0, 0, 2], [0, 0, 0]), [3, 11, -12, 13])

    def test_below_0_is_nothing(self):
        given = (self.a, [-1, -2, -3, -4, LEAST], [1, 2, 3, 4, 5])
        check_call(self, add_at, given, [0, 11, -12, 13])

    def test_as_many_as_a_has_or_more_is_nothing(self):
        check_call(self, add_at, (self.a, [3, 4, MOST], [1, 2, 3]), [0, 11, -12, 13])

    def test_each_place_that_a_does_not_have(self):
        for place in FAR_PLACES:
            check_call(self, add_at, (self.a, [0, place, 2], [1, 2, 3]), [2, 12, -12, 16])

    def test_each_place_by_itself(self):
        for count in range(5):
            a = [20 + i for i in range(count)]
            for place in range(-7, 8):
                self.assertEqual(add_at(a, [place], [9]), expected_add_at(a, [place], [9]))

    def test_more_places_than_rows(self):
        check_call(self, add_at, ([7], [0, 1, 0, -1, 0], [1, 2, 3, 4, 5]), [3, 16])


class AddAtGoesRound(unittest.TestCase):
    def check_one(self, x, y, expected):
        check_call(self, add_at, ([x], [0], [y]), [1, expected])

    def test_within(self):
        self.check_one(MOST, 0, MOST)
        self.check_one(LEAST, 0, LEAST)
        self.check_one(MOST - 1, 1, MOST)
        self.check_one(LEAST + 1, -1, LEAST)
        self.check_one(MOST, LEAST, -1)
        self.check_one(LEAST, MOST, -1)
        self.check_one(-1, 1, 0)

    def test_upward(self):
        self.check_one(MOST, 1, LEAST)
        self.check_one(1, MOST, LEAST)
        self.check_one(MOST, 2, LEAST + 1)
        self.check_one(MOST, MOST, -2)
        self.check_one(0x40000000, 0x40000000, LEAST)

    def test_downward(self):
        self.check_one(LEAST, -1, MOST)
        self.check_one(-1, LEAST, MOST)
        self.check_one(LEAST, -2, MOST - 1)
        self.check_one(LEAST, LEAST, 0)
        self.check_one(-0x40000001, -0x40000000, MOST)

    def test_every_pair_at_the_edges(self):
        for x in WHOLES:
            for y in WHOLES:
                self.assertEqual(add_at([x], [0], [y]), [1, expected_sum(x, y)], (x, y))

    def test_round_and_back(self):
        check_call(self, add_at, ([MOST], [0, 0], [1, -1]), [2, MOST])
        check_call(self, add_at, ([LEAST], [0, 0], [-1, 1]), [2, LEAST])

    def test_round_several_times(self):
        check_call(self, add_at, ([0], [0] * 5, [MOST] * 5), [5, 2147483643])
        check_call(self, add_at, ([1], [0] * 4, [LEAST] * 4), [4, 1])

    def test_the_other_rows_stay(self):
        check_call(self, add_at, ([MOST, LEAST, MOST], [1], [-1]), [1, MOST, MOST, MOST])


class AddAtSizes(unittest.TestCase):
    def test_nothing_at_all(self):
        check_call(self, add_at, ([], [], []), [0])

    def test_no_rows_but_places(self):
        check_call(self, add_at, ([], [0, -1, 1, MOST], [1, 2, 3, 4]), [0])

    def test_rows_but_no_places(self):
        check_call(self, add_at, (WHOLES, [], []), [0] + WHOLES)

    def test_one_row(self):
        check_call(self, add_at, ([7], [0], [-9]), [1, -2])
        check_call(self, add_at, ([7], [1], [-9]), [0, 7])
        check_call(self, add_at, ([7], [-1], [-9]), [0, 7])

    def test_1000_rows(self):
        a = long_wholes(1000)
        source = a[123:] + a[:123]
        places = [(i * 377) % 1400 - 200 for i in range(1000)]
        check_call(self, add_at, (a, places, source), expected_add_at(a, places, source))

    def test_1000_times_the_same_place(self):
        check_call(self, add_at, ([5, 6], [1] * 1000, [1] * 1000), [1000, 5, 1006])
        # 1000 times 2^31 - 1 is -1000 and 500 times 2^32.
        check_call(self, add_at, ([5, 6], [1] * 1000, [MOST] * 1000), [1000, 5, -994])
        check_call(self, add_at, ([5, 6], [1] * 1000, [LEAST] * 1000), [1000, 5, 6])

    def test_the_edges_of_1000_rows(self):
        given = ([4] * 1000, [999, 1000, 0, -1, -1000], [1, 2, 3, 5, 6])
        check_call(self, add_at, given, [2, 7] + [4] * 998 + [5])

    def test_what_was_handed_in_is_as_it_was(self):
        a, places, source = [1, 2, 3], [0, 2, 0], [7, 8, 9]
        self.assertEqual(add_at(a, places, source), [3, 17, 2, 11])
        self.assertEqual((a, places, source), ([1, 2, 3], [0, 2, 0], [7, 8, 9]))

    def test_one_list_handed_in_as_all(self):
        same = [1, 2, 0]
        self.assertEqual(add_at(same, same, same), [3, 1, 3, 2])
        self.assertEqual(same, [1, 2, 0])


if __name__ == "__main__":
    unittest.main()
