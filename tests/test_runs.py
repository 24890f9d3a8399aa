"""Promise 13: runs."""

import itertools
import unittest

from helper import FLOATS, HOLES, check_call, long_column
from holecolumnsdesk.columns import runs

ZERO, MINUS_ZERO = 0x00000000, 0x80000000
INF, MINUS_INF = 0x7F800000, 0xFF800000
HOLE, MINUS_HOLE = 0x7FC00000, 0xFFC00000


def expected_runs(a):
    places, place = [], 0
    for bits, rows in itertools.groupby(a):
        places.append(place)
        place += len(list(rows))
    return [len(places)] + places


class RunsBegin(unittest.TestCase):
    def test_several_runs(self):
        check_call(self, runs, ([7, 7, 8, 8, 8, 9, 7],), [4, 0, 2, 5, 6])

    def test_one_run(self):
        check_call(self, runs, ([7, 7, 7],), [1, 0])

    def test_runs_of_one_row_each(self):
        check_call(self, runs, ([7, 8, 7, 8],), [4, 0, 1, 2, 3])
        check_call(self, runs, (FLOATS,), [len(FLOATS)] + list(range(len(FLOATS))))

    def test_the_first_row_is_not_held_against_the_last(self):
        check_call(self, runs, ([7, 8, 7],), [3, 0, 1, 2])
        check_call(self, runs, ([7, 8, 8],), [2, 0, 1])

    def test_the_first_row_is_0(self):
        check_call(self, runs, ([0, 0, 1],), [2, 0, 2])

    def test_a_change_in_the_last_row(self):
        check_call(self, runs, ([7, 7, 7, 8],), [2, 0, 3])


class RunsByBits(unittest.TestCase):
    def test_zeros_are_not_the_same_bits(self):
        check_call(self, runs, ([MINUS_ZERO, ZERO],), [2, 0, 1])
        check_call(self, runs, ([ZERO, MINUS_ZERO, MINUS_ZERO, ZERO],), [3, 0, 1, 3])

    def test_a_hole_behind_the_same_bits(self):
        for hole in HOLES:
            check_call(self, runs, ([hole, hole, hole],), [1, 0])

    def test_a_hole_behind_other_bits_of_a_hole(self):
        check_call(self, runs, ([HOLE, MINUS_HOLE],), [2, 0, 1])
        check_call(self, runs, ([HOLE, HOLE, 0x7FC00001, 0x7FC00001],), [2, 0, 2])

    def test_infinities(self):
        given = [INF, INF, MINUS_INF, 0xFF800001, 0x7F800001, INF]
        check_call(self, runs, (given,), [5, 0, 2, 3, 4, 5])

    def test_every_pair_of_floats(self):
        for x in FLOATS:
            for y in FLOATS:
                self.assertEqual(runs([x, y]), [1, 0] if x == y else [2, 0, 1])

    def test_large_bits_made_anew(self):
        # The same number need not be the same object.
        given = [int("4294967295"), int("4294967295"), int("4294967294")]
        check_call(self, runs, (given,), [2, 0, 2])


class RunsSizes(unittest.TestCase):
    def test_no_rows(self):
        check_call(self, runs, ([],), [0])

    def test_one_row(self):
        for bits in FLOATS:
            check_call(self, runs, ([bits],), [1, 0])

    def test_1000_rows(self):
        column = [FLOATS[(i * i // 9) % len(FLOATS)] for i in range(1000)]
        check_call(self, runs, (column,), expected_runs(column))
        column = long_column(1000)
        check_call(self, runs, (column,), expected_runs(column))
        column = sorted(column)
        check_call(self, runs, (column,), expected_runs(column))

    def test_one_run_of_1000_rows(self):
        check_call(self, runs, ([0xFFFFFFFF] * 1000,), [1, 0])

    def test_1000_runs(self):
        check_call(self, runs, ([ZERO, MINUS_ZERO] * 500,), [1000] + list(range(1000)))

    def test_nothing_is_kept_from_the_call_before(self):
        self.assertEqual(runs([7, 7]), [1, 0])
        self.assertEqual(runs([7, 8]), [2, 0, 1])


if __name__ == "__main__":
    unittest.main()
