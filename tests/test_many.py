"""many: how many right solutions there are, the corners, and the refusals."""

import random
import unittest

from roundtripsdesk.puzzles import many
from tests.helper import (GREATEST, GREATEST_SMALL, Kept, broken_puzzles, broken_rows, drawn_puzzle, long_roads,
                          one_way_roads, pairs, row_of, told_solutions)


class Counts(unittest.TestCase):
    def answer(self, wanted, c, p):
        given = many(c, p)
        self.assertIs(type(given), list)
        self.assertEqual(given, [wanted], (c, p))
        self.assertIs(type(given[0]), int)

    def counted(self, wanted, c, n, k, rows):
        """The number written here, the one told by trying every list, and the answer are one."""
        self.assertEqual(len(told_solutions(c, n, k, rows)), wanted)
        self.answer(wanted, c, row_of(n, k, rows))


class TestKinds(Counts):
    def test_guards(self):
        path = [[0, 1], [1, 2], [2, 3]]
        self.counted(0, 0, 4, 1, path)
        self.counted(3, 0, 4, 2, path)
        self.counted(4, 0, 4, 3, path)
        self.counted(1, 0, 4, 4, path)
        self.counted(0, 0, 4, 5, path)
        self.counted(1, 0, 3, 1, [[0, 1], [0, 2]])
        self.counted(0, 0, 3, 1, pairs(3))

    def test_one_way_roads(self):
        self.counted(0, 1, 3, 0, [[0, 1], [0, 2], [1, 2]])
        self.counted(1, 1, 3, 0, [[0, 1], [1, 2], [2, 0]])
        self.counted(2, 1, 3, 0, one_way_roads(3))
        self.counted(6, 1, 4, 0, one_way_roads(4))
        self.counted(24, 1, 5, 0, one_way_roads(5))
        self.counted(1, 1, 4, 0, [[0, 1], [0, 2], [1, 3], [2, 1], [3, 0]])

    def test_roads(self):
        self.counted(0, 2, 4, 0, [[0, 1], [1, 2], [2, 3]])
        self.counted(2, 2, 4, 0, [[0, 1], [0, 3], [1, 2], [2, 3]])
        self.counted(1, 2, 2, 0, [[0, 1]])
        self.counted(24, 2, 5, 0, pairs(5))

    def test_short_trip(self):
        ring = [[0, 1, 1], [0, 2, 3], [1, 2, 2]]
        self.counted(0, 3, 3, 5, ring)
        self.counted(2, 3, 3, 6, ring)
        self.counted(1, 3, 2, 4, [[0, 1, 2]])
        self.counted(0, 3, 2, 3, [[0, 1, 2]])
        self.counted(24, 3, 5, 5, long_roads(5, 1))
        self.counted(0, 3, 5, 4, long_roads(5, 1))
        mixed = [[0, 1, 1], [0, 2, 5], [0, 3, 1], [1, 2, 1], [1, 3, 5], [2, 3, 1]]
        self.counted(2, 3, 4, 11, mixed)
        self.counted(6, 3, 4, 12, mixed)

    def test_wishes(self):
        self.counted(0, 4, 2, 0, [[0], [1]])
        self.counted(1, 4, 2, 0, [[0], [3]])
        self.counted(3, 4, 2, 0, [[0, 2]])
        self.counted(3, 4, 2, 0, [[0, 2], [0, 2]])
        self.counted(2, 4, 3, 0, [[0, 3], [2, 5], [1, 4]])
        self.counted(8, 4, 3, 0, [])

    def test_drawn_puzzles(self):
        source = random.Random(28)
        for c in range(5):
            for n in range(8 if c in (0, 4) else 6):
                for again in range(12 if n < 5 else 3):
                    n, k, rows = drawn_puzzle(source, c, n)
                    self.answer(len(told_solutions(c, n, k, rows)), c, row_of(n, k, rows))


class TestCorners(Counts):
    def test_no_point_and_no_flag(self):
        for c in range(5):
            self.counted(1, c, 0, 0, [])
        self.counted(0, 0, 0, 1, [])
        self.counted(1, 3, 0, 7, [])
        self.counted(1, 3, 0, GREATEST, [])

    def test_one_point(self):
        for c in (1, 2, 3):
            self.counted(0, c, 1, 0, [])
        self.counted(0, 3, 1, GREATEST, [])
        self.counted(1, 0, 1, 0, [])
        self.counted(1, 0, 1, 1, [])
        self.counted(0, 0, 1, 2, [])
        self.counted(2, 4, 1, 0, [])

    def test_two_points(self):
        self.counted(0, 1, 2, 0, [[0, 1]])
        self.counted(0, 1, 2, 0, [[1, 0]])
        self.counted(1, 1, 2, 0, [[0, 1], [1, 0]])
        self.counted(0, 2, 2, 0, [])
        self.counted(1, 2, 2, 0, [[0, 1]])
        self.counted(1, 3, 2, 10, [[0, 1, 5]])
        self.counted(0, 3, 2, 9, [[0, 1, 5]])

    def test_k_is_0(self):
        self.counted(0, 0, 3, 0, [[0, 1]])
        self.counted(1, 0, 3, 0, [])
        self.counted(2, 3, 3, 0, long_roads(3, 0))
        self.counted(0, 3, 3, 0, long_roads(3, 1))

    def test_k_is_above_n(self):
        self.counted(0, 0, 3, 4, [])
        self.counted(0, 0, 3, GREATEST, [[0, 1]])
        self.counted(2, 3, 3, 4, long_roads(3, 1))
        self.counted(2, 3, 3, GREATEST, long_roads(3, 1))
        self.counted(0, 3, 3, GREATEST, long_roads(3, GREATEST))

    def test_no_rows(self):
        for k, wanted in enumerate((1, 4, 6, 4, 1, 0)):
            self.counted(wanted, 0, 4, k, [])
        for c in (1, 2, 3):
            self.counted(0, c, 4, 0, [])
        self.counted(16, 4, 4, 0, [])

    def test_someone_in_no_pair(self):
        self.counted(5, 0, 4, 2, [[0, 1]])

    def test_empty_wish(self):
        self.counted(0, 4, 0, 0, [[]])
        self.counted(0, 4, 1, 0, [[]])
        self.counted(0, 4, 3, 0, [[0], [], [2]])


class TestRefusals(Counts):
    def test_edge_of_kinds_0_and_4(self):
        self.counted(924, 0, 12, 6, [])
        self.counted(1, 0, 12, 1, [[0, b] for b in range(1, 12)])
        self.counted(4096, 4, 12, 0, [])
        self.counted(1, 4, 12, 0, [[2 * v] for v in range(12)])
        self.counted(4095, 4, 12, 0, [list(range(0, 24, 2))])
        for n in (13, 14, 64, 999, 1000, 1001, GREATEST):
            self.answer(-28, 0, row_of(n, 0, []))
            self.answer(-28, 0, row_of(n, n, []))
            self.answer(-28, 4, row_of(n, 0, []))
            self.answer(-28, 4, row_of(n, 0, [[]]))

    def test_edge_of_trips(self):
        self.answer(24, 1, row_of(5, 0, one_way_roads(5)))
        self.answer(24, 2, row_of(5, 0, pairs(5)))
        self.answer(24, 3, row_of(5, 5, long_roads(5, 1)))
        for n in (6, 7, 8, 12, 13, 1000, 1001, GREATEST):
            for c in (1, 2, 3):
                self.answer(-28, c, row_of(n, 0, []))
        self.answer(-28, 1, row_of(6, 0, one_way_roads(6)))
        self.answer(-28, 2, row_of(6, 0, pairs(6)))
        self.answer(-28, 3, row_of(6, 6, long_roads(6, 1)))
        self.answer(-28, 3, row_of(6, GREATEST, []))

    def test_many_rows_are_no_refusal(self):
        self.answer(0, 4, row_of(12, 0, [[]] * 398))
        self.answer(2048, 4, row_of(12, 0, [[0]] * 199))

    def test_c_is_no_kind(self):
        for c in (5, 6, GREATEST_SMALL):
            self.answer(-22, c, row_of(0, 0, []))
            self.answer(-22, c, row_of(2, 0, [[0, 1]]))

    def test_p_is_no_row(self):
        for c in range(5):
            for p in broken_rows():
                self.answer(-22, c, p)

    def test_not_of_the_kind(self):
        for c in range(5):
            for p in broken_puzzles(c):
                self.answer(-22, c, p)

    def test_22_comes_before_28(self):
        for n in (13, 1001, GREATEST):
            self.answer(-22, 5, row_of(n, 0, []))
            for c in range(5):
                self.answer(-22, c, [n, 0, 1])
                for p in broken_puzzles(c, n):
                    self.answer(-22, c, p)


class TestHandedIn(Counts):
    PUZZLES = ([], [1], [2000, 0], row_of(4, 2, [[0, 1], [1, 2]]), row_of(3, 0, one_way_roads(3)),
               row_of(4, 0, pairs(4)), row_of(3, 3, long_roads(3, 1)), row_of(3, 0, [[0, 3], [2, 5]]), [2, 0, 2, 1])

    def test_nothing_is_changed(self):
        for c in range(6):
            for puzzle in self.PUZZLES:
                p = list(puzzle)
                answered = many(c, p)
                self.assertEqual(p, puzzle)
                self.assertEqual(many(c, Kept(puzzle)), answered)

    def test_each_time_is_the_first(self):
        for again in range(3):
            self.answer(3, 4, row_of(2, 0, [[0, 2]]))
            many(4, row_of(2, 0, [[0, 2]])).append(again)
            self.answer(0, 1, row_of(2, 0, [[0, 1]]))
            self.answer(1, 2, row_of(2, 0, [[0, 1]]))


if __name__ == "__main__":
    unittest.main()
