"""first: the first right solution in order, the corners, and the refusals."""

import random
import unittest

from roundtripsdesk.puzzles import first, many, right
from tests.helper import (GREATEST, GREATEST_SMALL, Kept, broken_puzzles, broken_rows, drawn_puzzle, long_roads,
                          one_way_roads, pairs, row_of, told_solutions)


class Firsts(unittest.TestCase):
    def answer(self, wanted, c, p):
        given = first(c, p)
        self.assertIs(type(given), list)
        self.assertEqual(given, wanted, (c, p))
        self.assertEqual({type(number) for number in given}, {int})

    def found(self, wanted, c, n, k, rows):
        """The solution written here, the first one told by trying every list, and the answer are one."""
        self.assertEqual(told_solutions(c, n, k, rows)[0], wanted)
        self.answer([n] + wanted, c, row_of(n, k, rows))

    def lacking(self, c, n, k, rows):
        self.assertEqual(told_solutions(c, n, k, rows), [])
        self.answer([-6], c, row_of(n, k, rows))

    def refused(self, number, c, p):
        self.answer([number], c, p)


class TestKinds(Firsts):
    def test_guards(self):
        path = [[0, 1], [1, 2], [2, 3]]
        self.lacking(0, 4, 1, path)
        self.found([0, 1, 0, 1], 0, 4, 2, path)
        self.found([0, 1, 1, 1], 0, 4, 3, path)
        self.found([1, 1, 1, 1], 0, 4, 4, path)
        self.found([1, 0, 0], 0, 3, 1, [[0, 1], [0, 2]])
        self.lacking(0, 3, 1, pairs(3))

    def test_one_way_roads(self):
        self.lacking(1, 3, 0, [[0, 1], [0, 2], [1, 2]])
        self.found([0, 2, 1], 1, 3, 0, [[0, 2], [1, 0], [2, 1]])
        self.found([0, 1, 2], 1, 3, 0, one_way_roads(3))
        self.found([0, 2, 1, 3], 1, 4, 0, [[0, 1], [0, 2], [1, 3], [2, 1], [3, 0]])
        self.found([0, 3, 1, 2], 1, 4, 0, [[0, 3], [1, 2], [2, 0], [2, 1], [3, 1], [3, 2]])
        self.found([0, 1, 2, 3, 4], 1, 5, 0, one_way_roads(5))

    def test_roads(self):
        self.lacking(2, 4, 0, [[0, 1], [1, 2], [2, 3]])
        self.found([0, 1], 2, 2, 0, [[0, 1]])
        self.found([0, 2, 1, 3], 2, 4, 0, [[0, 2], [0, 3], [1, 2], [1, 3]])
        self.found([0, 1, 2, 3, 4], 2, 5, 0, pairs(5))
        self.found([0, 2, 4, 1, 3], 2, 5, 0, [[0, 2], [0, 3], [1, 3], [1, 4], [2, 4]])

    def test_short_trip(self):
        ring = [[0, 1, 1], [0, 2, 3], [1, 2, 2]]
        self.lacking(3, 3, 5, ring)
        self.found([0, 1, 2], 3, 3, 6, ring)
        mixed = [[0, 1, 5], [0, 2, 1], [0, 3, 1], [1, 2, 1], [1, 3, 1], [2, 3, 5]]
        self.lacking(3, 4, 3, mixed)
        self.found([0, 2, 1, 3], 3, 4, 4, mixed)
        self.found([0, 1, 2, 3], 3, 4, 12, mixed)

    def test_wishes(self):
        self.lacking(4, 2, 0, [[0], [1]])
        self.found([1, 0], 4, 2, 0, [[0], [3]])
        self.found([0, 1], 4, 2, 0, [[0, 2]])
        self.found([0, 0, 0], 4, 3, 0, [[0, 3], [2, 5], [1, 4]])
        self.found([1, 0, 1], 4, 3, 0, [[0], [2, 4]])

    def test_drawn_puzzles(self):
        source = random.Random(6)
        seen = {(c, several): False for c in range(5) for several in range(3)}
        for c in range(5):
            for n in range(8 if c in (0, 4) else 6):
                for again in range(12 if n < 5 else 3):
                    n, k, rows = drawn_puzzle(source, c, n)
                    told = told_solutions(c, n, k, rows)
                    p = row_of(n, k, rows)
                    self.answer([n] + told[0] if told else [-6], c, p)
                    self.assertEqual(many(c, p)[0] > 0, first(c, p) != [-6])
                    if told:
                        self.assertEqual(right(c, p, first(c, p)[1:]), [1])
                    seen[(c, min(len(told), 2))] = True
        # of each kind there were puzzles with no right solution, with one, and with several
        self.assertTrue(all(seen.values()), seen)


class TestCorners(Firsts):
    def test_no_point_and_no_flag(self):
        for c in range(5):
            self.found([], c, 0, 0, [])
            self.answer([0], c, [0, 0])
        self.lacking(0, 0, 1, [])
        self.found([], 3, 0, GREATEST, [])
        self.lacking(4, 0, 0, [[]])

    def test_one_point(self):
        for c in (1, 2, 3):
            self.lacking(c, 1, 0, [])
        self.lacking(3, 1, GREATEST, [])
        self.found([0], 0, 1, 0, [])
        self.found([1], 0, 1, 1, [])
        self.lacking(0, 1, 2, [])
        self.found([0], 4, 1, 0, [])
        self.found([1], 4, 1, 0, [[0]])

    def test_two_points(self):
        self.lacking(1, 2, 0, [[0, 1]])
        self.lacking(1, 2, 0, [[1, 0]])
        self.found([0, 1], 1, 2, 0, [[0, 1], [1, 0]])
        self.lacking(2, 2, 0, [])
        self.found([0, 1], 2, 2, 0, [[0, 1]])
        self.found([0, 1], 3, 2, 10, [[0, 1, 5]])
        self.lacking(3, 2, 9, [[0, 1, 5]])

    def test_k_is_0(self):
        self.lacking(0, 3, 0, [[0, 1]])
        self.found([0, 0, 0], 0, 3, 0, [])
        self.found([0, 1, 2], 3, 3, 0, long_roads(3, 0))
        self.lacking(3, 3, 0, long_roads(3, 1))

    def test_k_is_above_n(self):
        self.lacking(0, 3, 4, [])
        self.lacking(0, 3, GREATEST, [[0, 1]])
        self.found([0, 1, 2], 3, 3, 4, long_roads(3, 1))
        self.found([0, 1, 2], 3, 3, GREATEST, long_roads(3, 1))
        self.lacking(3, 3, GREATEST, long_roads(3, GREATEST))

    def test_no_rows(self):
        self.found([0, 0, 1, 1], 0, 4, 2, [])
        for c in (1, 2, 3):
            self.lacking(c, 4, 0, [])
        self.found([0, 0, 0, 0], 4, 4, 0, [])

    def test_someone_in_no_pair(self):
        self.found([0, 1, 0, 1], 0, 4, 2, [[0, 1]])

    def test_empty_wish(self):
        self.lacking(4, 1, 0, [[]])
        self.lacking(4, 3, 0, [[0], [], [2]])


class TestRefusals(Firsts):
    def test_edge_of_kinds_0_and_4(self):
        self.found([0] * 6 + [1] * 6, 0, 12, 6, [])
        self.found([1] + [0] * 11, 0, 12, 1, [[0, b] for b in range(1, 12)])
        self.found([1] * 12, 4, 12, 0, [[2 * v] for v in range(12)])
        self.lacking(4, 12, 0, [[]])
        self.lacking(0, 12, 13, [])
        for n in (13, 14, 64, 999, 1000, 1001, GREATEST):
            self.refused(-28, 0, row_of(n, 0, []))
            self.refused(-28, 0, row_of(n, n, []))
            self.refused(-28, 4, row_of(n, 0, []))

    def test_edge_of_trips(self):
        self.found([0, 4, 3, 2, 1], 1, 5, 0, [[0, 4], [1, 0], [2, 1], [3, 2], [4, 3]])
        self.found([0, 1, 2, 3, 4], 2, 5, 0, pairs(5))
        self.found([0, 1, 2, 3, 4], 3, 5, 5, long_roads(5, 1))
        for n in (6, 7, 8, 12, 13, 1000, 1001, GREATEST):
            for c in (1, 2, 3):
                self.refused(-28, c, row_of(n, 0, []))
        self.refused(-28, 1, row_of(6, 0, one_way_roads(6)))
        self.refused(-28, 2, row_of(6, 0, pairs(6)))
        self.refused(-28, 3, row_of(6, 6, long_roads(6, 1)))

    def test_c_is_no_kind(self):
        for c in (5, 6, GREATEST_SMALL):
            self.refused(-22, c, row_of(0, 0, []))
            self.refused(-22, c, row_of(2, 0, [[0, 1]]))

    def test_p_is_no_row(self):
        for c in range(5):
            for p in broken_rows():
                self.refused(-22, c, p)

    def test_not_of_the_kind(self):
        for c in range(5):
            for p in broken_puzzles(c):
                self.refused(-22, c, p)

    def test_22_comes_before_28(self):
        for n in (13, 1001, GREATEST):
            self.refused(-22, 5, row_of(n, 0, []))
            for c in range(5):
                self.refused(-22, c, [n, 0, 1])
                for p in broken_puzzles(c, n):
                    self.refused(-22, c, p)

    def test_28_comes_before_6(self):
        for n in (13, 1001):
            # there is no right solution: too many are to be chosen, an empty wish, no road
            self.refused(-28, 0, row_of(n, n + 1, []))
            self.refused(-28, 4, row_of(n, 0, [[]]))
            for c in (1, 2, 3):
                self.refused(-28, c, row_of(n, 0, []))


class TestHandedIn(Firsts):
    PUZZLES = ([], [1], [0, 0], [2000, 0], row_of(4, 2, [[0, 1], [1, 2]]), row_of(3, 0, one_way_roads(3)),
               row_of(4, 0, pairs(4)), row_of(3, 3, long_roads(3, 1)), row_of(3, 0, [[0, 3], [2, 5]]), [2, 0, 2, 1])

    def test_nothing_is_changed(self):
        for c in range(6):
            for puzzle in self.PUZZLES:
                p = list(puzzle)
                answered = first(c, p)
                self.assertEqual(p, puzzle)
                self.assertEqual(first(c, Kept(puzzle)), answered)

    def test_each_time_is_the_first(self):
        for again in range(3):
            self.answer([2, 0, 1], 4, row_of(2, 0, [[0, 2]]))
            first(4, row_of(2, 0, [[0, 2]])).append(again)
            self.refused(-6, 1, row_of(2, 0, [[0, 1]]))
            self.answer([2, 0, 1], 2, row_of(2, 0, [[0, 1]]))


if __name__ == "__main__":
    unittest.main()
