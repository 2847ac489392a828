"""there: where solutions go, number by number, that they're right there, the corners, and the refusals."""

import random
import unittest

from roundtripsdesk.puzzles import right, there, turn
from tests.helper import (GREATEST, KIND_FROM, KIND_TO, Way, all_puzzles, drawn_puzzle, edges_of_work, one_way_ring,
                          one_way_roads, pairs, puzzle_of, ring, row_of, told_points, told_right, told_solutions)


def told_there(t, n, k, rows, s):
    """Where s goes, straight from the document's words."""
    if t == 0:
        return told_walk(n, k, rows, s)
    if t == 1:
        return [3 * v + i for v in s for i in range(3)]
    if t == 4:
        return [1 if s[j] == v else 0 for j in range(n) for v in range(n)]
    return s


def told_walk(n, k, rows, s):
    points = told_points(n, k, rows)
    paired = {v for pair in rows for v in pair}
    taken = {v for v in paired if s[v] == 1}
    while len(taken) < min(k, len(paired)):
        taken.add(min(paired - taken))
    walk = []
    for i, v in enumerate(sorted(taken)):
        walk.append(("gate", i))
        for pair in [tuple(pair) for pair in rows if v in pair]:
            other = sum(pair) - v
            between = [] if other in taken else [("in", other, pair), ("out", other, pair)]
            walk += [("in", v, pair)] + between + [("out", v, pair)]
    return [points.index(point) for point in walk]


class There(Way):
    call, told = staticmethod(there), staticmethod(told_there)

    def goes(self, wanted, t, n, k, rows, s):
        """The solution written here, the one told by the words, and the answer are one, and it's right."""
        self.assertEqual(told_there(t, n, k, rows, s), wanted)
        p = row_of(n, k, rows)
        self.answer([len(wanted)] + wanted, t, p, s)
        self.assertEqual(right(KIND_FROM[t], p, s), [1])
        later = turn(t, p)[1:]
        self.assertTrue(told_right(KIND_TO[t], *puzzle_of(later), wanted), (t, p, s))
        self.assertIn(right(KIND_TO[t], later, wanted), ([1], [-28]))

    def holds(self, t, n, k, rows):
        """Every right solution goes where the words tell, and is right there; gives how many there are."""
        solutions = told_solutions(KIND_FROM[t], n, k, rows)
        for s in solutions:
            self.goes(told_there(t, n, k, rows, s), t, n, k, rows, s)
        return len(solutions)


class TestTurn0(There):
    def test_one_of_a_pair(self):
        # gate 0; 0 comes in at 1, goes out at 2; 1 comes in at 3, goes out at 4
        self.goes([0, 1, 3, 4, 2], 0, 2, 1, [[0, 1]], [1, 0])
        self.goes([0, 3, 1, 2, 4], 0, 2, 1, [[0, 1]], [0, 1])

    def test_both_of_a_pair(self):
        self.goes([0, 2, 3, 1, 4, 5], 0, 2, 2, [[0, 1]], [1, 1])

    def test_two_pairs(self):
        # gate 0; 0's pair: 1, 2; 1's pairs: 3, 4 and 5, 6; 2's pair: 7, 8
        self.goes([0, 3, 1, 2, 4, 5, 7, 8, 6], 0, 3, 1, [[0, 1], [1, 2]], [0, 1, 0])
        # gates 0, 1; 0's pair: 2, 3; 1's pairs: 4, 5 and 6, 7; 2's pair: 8, 9
        self.goes([0, 2, 4, 5, 3, 1, 8, 6, 7, 9], 0, 3, 2, [[0, 1], [1, 2]], [1, 0, 1])
        self.goes([0, 2, 3, 1, 4, 5, 6, 8, 9, 7], 0, 3, 2, [[0, 1], [1, 2]], [1, 1, 0])
        self.goes([0, 4, 2, 3, 5, 6, 7, 1, 8, 9], 0, 3, 2, [[0, 1], [1, 2]], [0, 1, 1])

    def test_all_pairs_of_three(self):
        # gates 0, 1; 0's pairs: 2, 3 and 4, 5; 1's: 6, 7 and 8, 9; 2's: 10, 11 and 12, 13
        self.goes([0, 2, 3, 4, 10, 11, 5, 1, 6, 7, 8, 12, 13, 9], 0, 3, 2, pairs(3), [1, 1, 0])
        self.goes([0, 2, 6, 7, 3, 4, 5, 1, 10, 11, 12, 8, 9, 13], 0, 3, 2, pairs(3), [1, 0, 1])
        self.goes([0, 6, 2, 3, 7, 8, 9, 1, 10, 4, 5, 11, 12, 13], 0, 3, 2, pairs(3), [0, 1, 1])

    def test_no_pair(self):
        for n, k, s in ((0, 0, []), (1, 0, [0]), (1, 1, [1]), (3, 0, [0, 0, 0]), (3, 2, [0, 1, 1]), (2, 2, [1, 1])):
            self.goes([], 0, n, k, [], s)
            self.answer([0], 0, [n, k], s)

    def test_chosen_but_in_no_pair(self):
        # the least others who are in a pair stand at the gates besides
        self.goes([0, 2, 3, 1, 4, 5], 0, 3, 2, [[0, 1]], [1, 0, 1])
        self.goes([0, 2, 3, 1, 4, 5], 0, 3, 2, [[0, 1]], [0, 1, 1])
        self.goes([0, 2, 3, 1, 4, 5], 0, 3, 2, [[0, 2]], [0, 1, 1])
        # gates 0, 1; 0's pair: 2, 3; 1's pairs: 4, 5 and 6, 7; 2's pair: 8, 9; 3 is in none
        self.goes([0, 2, 3, 1, 4, 5, 6, 8, 9, 7], 0, 4, 2, [[0, 1], [1, 2]], [0, 1, 0, 1])
        # gates 0, 1; 0's pairs: 2, 3 and 4, 5; 1's pair: 6, 7; 2's pair: 8, 9; 3 is in none
        self.goes([0, 2, 3, 4, 8, 9, 5, 1, 6, 7], 0, 4, 2, [[0, 1], [0, 2]], [1, 0, 0, 1])

    def test_two_besides(self):
        # gates 0, 1, 2; 2's pair with 5: 3, 4; 3's: 5, 6; 4's: 7, 8; 5's pairs: 9, 10, 11, 12, 13, 14; 0 and 1: none
        self.goes([0, 3, 4, 1, 5, 6, 2, 9, 10, 11, 12, 13, 7, 8, 14], 0, 6, 3, [[2, 5], [3, 5], [4, 5]],
                  [1, 1, 0, 0, 0, 1])

    def test_k_above_how_many_are_in_a_pair(self):
        for s in ([1, 1, 1, 0], [1, 1, 0, 1], [1, 0, 1, 1], [0, 1, 1, 1]):
            self.goes([0, 2, 3, 1, 4, 5], 0, 4, 3, [[0, 1]], s)
        self.goes([0, 2, 3, 1, 4, 5], 0, 4, 4, [[1, 3]], [1, 1, 1, 1])

    def test_k_is_0(self):
        self.goes([], 0, 2, 0, [], [0, 0])
        self.refused(-71, 0, row_of(2, 0, [[0, 1]]), [0, 0])

    def test_k_above_n(self):
        for n in range(4):
            self.refused(-71, 0, row_of(n, n + 1, []), [1] * n)
            self.refused(-71, 0, row_of(n, n + 1, pairs(n)), [1] * n)


class TestTurn1(There):
    def test_few_points(self):
        self.goes([], 1, 0, 0, [], [])
        self.answer([0], 1, [0, 0], [])
        self.refused(-71, 1, [1, 0], [0])
        self.goes([0, 1, 2, 3, 4, 5], 1, 2, 0, [[0, 1], [1, 0]], [0, 1])

    def test_three_points(self):
        self.goes([0, 1, 2, 3, 4, 5, 6, 7, 8], 1, 3, 0, one_way_ring(3), [0, 1, 2])
        self.goes([0, 1, 2, 6, 7, 8, 3, 4, 5], 1, 3, 0, [[0, 2], [1, 0], [2, 1]], [0, 2, 1])
        self.goes([0, 1, 2, 6, 7, 8, 3, 4, 5], 1, 3, 0, one_way_roads(3), [0, 2, 1])


class TestTurns2And3(There):
    def test_as_it_is(self):
        square = [[0, 2], [0, 3], [1, 2], [1, 3]]
        for t in (2, 3):
            self.goes([], t, 0, 0, [], [])
            self.answer([0], t, [0, 0], [])
            self.refused(-71, t, [1, 0], [0])
            self.goes([0, 1], t, 2, 0, [[0, 1]], [0, 1])
            self.goes([0, 2, 1], t, 3, 0, pairs(3), [0, 2, 1])
            self.goes([0, 2, 1, 3], t, 4, 0, square, [0, 2, 1, 3])
            self.goes([0, 3, 1, 2], t, 4, 0, square, [0, 3, 1, 2])


class TestTurn4(There):
    def test_few_points(self):
        self.goes([], 4, 0, 0, [], [])
        self.answer([0], 4, [0, 0], [])
        self.refused(-71, 4, [1, 0], [0])
        self.goes([1, 0, 0, 1], 4, 2, 0, [[0, 1], [1, 0]], [0, 1])

    def test_three_points(self):
        self.goes([1, 0, 0, 0, 1, 0, 0, 0, 1], 4, 3, 0, one_way_ring(3), [0, 1, 2])
        self.goes([1, 0, 0, 0, 0, 1, 0, 1, 0], 4, 3, 0, [[0, 2], [1, 0], [2, 1]], [0, 2, 1])

    def test_four_points(self):
        self.goes([1, 0, 0, 0, 0, 0, 1, 0, 0, 0, 0, 1, 0, 1, 0, 0], 4, 4, 0, one_way_roads(4), [0, 2, 3, 1])


class TestWhatHolds(There):
    def test_all_small_puzzles(self):
        for t, most in enumerate((4, 3, 4, 4, 3)):
            for n in range(most + 1):
                for puzzle in all_puzzles(KIND_FROM[t], n):
                    self.holds(t, *puzzle)

    def test_drawn_puzzles(self):
        source = random.Random(10)
        for t in range(5):
            held = 0
            for n in (4, 4, 5, 5, 5, 6, 7) if t == 0 else (4, 4, 4, 4, 5, 5):
                for again in range(5):
                    held += self.holds(t, *drawn_puzzle(source, KIND_FROM[t], n))
            self.assertGreater(held, 30)


class TestGreat(There):
    def test_at_the_edge_of_the_work(self):
        # their size is 200, which is just not too much; one point more is
        trip = list(range(50))
        self.goes([3 * v + i for v in trip for i in range(3)], 1, 50, 0, one_way_ring(50), trip)
        self.refused(-28, 1, row_of(51, 0, one_way_ring(50)), trip)
        for t in (2, 3):
            self.goes(trip, t, 50, 0, ring(50), trip)
            self.goes([0] + trip[:0:-1], t, 50, 0, ring(50), [0] + trip[:0:-1])
            self.refused(-28, t, row_of(51, 0, ring(50)), trip)
        chosen = [1, 0] * 25
        self.goes(told_walk(50, 25, ring(50), chosen), 0, 50, 25, ring(50), chosen)
        self.goes([], 0, 200, 7, [], [1] * 7 + [0] * 193)
        self.goes([0, 3, 1, 2, 4], 0, 197, 1, [[5, 196]], [0] * 196 + [1])
        self.refused(-28, 0, row_of(51, 25, ring(50)), chosen + [0])
        self.refused(-28, 0, row_of(201, 7, []), [1] * 7 + [0] * 194)

    def test_at_the_edge_of_turn_4(self):
        # 122 times 122 and 29 times 29 times 29 are 39,273; with one road more 125 times 125 makes it 40,014
        trip = list(range(29))
        rows = sorted(one_way_ring(29) + [[5, 3], [7, 3]])
        self.goes([1 if v % 30 == 0 else 0 for v in range(29 * 29)], 4, 29, 0, rows, trip)
        self.refused(-28, 4, row_of(29, 0, sorted(rows + [[9, 3]])), trip)

    def test_not_right_at_the_edge(self):
        for t in range(5):
            for n, rows in edges_of_work(t)[0]:
                self.refused(-71, t, row_of(n, 1 if t == 0 else 0, rows), [])
        self.refused(-71, 0, row_of(200, GREATEST, []), [1] * 200)


class TestRefusals(There):
    # Of each turn a puzzle's row, and a right solution of it.
    RIGHT = ((0, row_of(3, 2, [[0, 1], [1, 2]]), [0, 1, 1]), (1, row_of(3, 0, one_way_ring(3)), [0, 1, 2]),
             (2, row_of(4, 0, ring(4)), [0, 1, 2, 3]), (3, row_of(4, 0, ring(4)), [0, 3, 2, 1]),
             (4, row_of(3, 0, one_way_ring(3)), [0, 1, 2]))

    def test_22_and_28(self):
        self.refuses_puzzles()

    def test_too_long_or_too_short(self):
        for t, p, s in self.RIGHT:
            self.refuses_lengths(t, p, s)

    def test_no_number_where_there_should_be_none(self):
        self.refuses_where_none_should_be()

    def test_numbers_that_a_solution_cannot_have(self):
        for t, p, s in self.RIGHT:
            self.refuses_numbers(t, p, s, 2 if t == 0 else len(s))
        # 2 and 0 are as many as 1 and 1
        self.refused(-71, 0, row_of(3, 2, [[0, 1], [1, 2]]), [0, 2, 0])

    def test_of_the_right_length_but_not_right(self):
        for s in ([0, 1, 0], [1, 1, 1], [0, 0, 0], [0, 0, 1]):
            self.refused(-71, 0, row_of(3, 2, [[0, 1], [1, 2]]), s)
        self.refused(-71, 0, row_of(3, 1, [[0, 1], [1, 2]]), [1, 0, 0])
        for t in (1, 4):
            for s in ([0, 2, 1], [1, 2, 0], [2, 0, 1], [0, 0, 0], [0, 1, 1], [0, 2, 2]):
                self.refused(-71, t, row_of(3, 0, one_way_ring(3)), s)
            self.refused(-71, t, row_of(2, 0, [[0, 1]]), [0, 1])
        for t in (2, 3):
            for s in ([0, 2, 1, 3], [0, 1, 3, 2], [1, 2, 3, 0], [3, 2, 1, 0], [0, 1, 2, 1], [0, 0, 0, 0]):
                self.refused(-71, t, row_of(4, 0, ring(4)), s)
            self.refused(-71, t, [2, 0], [0, 1])

    def test_a_solution_of_the_turned_puzzle(self):
        both_ways = row_of(2, 0, [[0, 1], [1, 0]])
        for t, p, s in ((0, row_of(2, 1, [[0, 1]]), [0, 1, 3, 4, 2]), (1, both_ways, [0, 1, 2, 3, 4, 5]),
                        (4, both_ways, [1, 0, 0, 1])):
            self.assertTrue(told_right(KIND_TO[t], *puzzle_of(turn(t, p)[1:]), s))
            self.refused(-71, t, p, s)

    def test_no_right_solution_at_all(self):
        for t, n, k, rows in ((0, 3, 1, pairs(3)), (1, 3, 0, [[0, 1], [1, 2]]), (2, 3, 0, [[0, 1], [1, 2]]),
                              (3, 3, 0, [[0, 1], [1, 2]]), (4, 3, 0, [[0, 1], [1, 2]])):
            self.assertEqual(told_solutions(KIND_FROM[t], n, k, rows), [])
            for s in ([], [0, 1, 2], [0, 2, 1], [0, 1, 0], [1, 1, 0], [1, 1, 1]):
                self.refused(-71, t, row_of(n, k, rows), s)


class TestHandedIn(There):
    def test_nothing_is_changed(self):
        for t, p, s in self.handed_in(TestRefusals.RIGHT):
            self.changes_nothing(t, p, s)

    def test_each_time_is_the_first(self):
        for again in range(3):
            for t, p, s in TestRefusals.RIGHT:
                self.answer_told(t, p, s)
                self.refused(-71, t, p, [])


if __name__ == "__main__":
    unittest.main()
