"""home: as what solutions come home, number by number, that they're right then, the corners, and the refusals."""

import random
import unittest

from roundtripsdesk.puzzles import home, right, there, turn
from tests.helper import (GREATEST, GREATEST_SMALL, KIND_FROM, KIND_TO, Way, all_puzzles, drawn_puzzle, edges_of_work,
                          one_way_ring, one_way_roads, pairs, puzzle_of, ring, row_of, searched, told_points,
                          told_right, told_solutions)


def told_home(t, n, k, rows, s):
    """As what s comes home, straight from the document's words."""
    if t == 0:
        return told_chosen(n, k, rows, s)
    if t == 1:
        about = s if s[:2] == [0, 1] else s[:1] + s[:0:-1]
        return [v // 3 for i, v in enumerate(about) if i % 3 == 0]
    if t == 4:
        return [min(v for v in range(n) if s[j * n + v] == 1) for j in range(n)]
    return s


def told_chosen(n, k, rows, s):
    points = told_points(n, k, rows)
    trip = [points[i] for i in s]
    first_pairs = {v: tuple(min(pair for pair in rows if v in pair)) for pair in rows for v in pair}
    chosen = set()
    for before, point in zip(trip[-1:] + trip, trip):
        if before[0] == "gate" and point[0] == "in" and first_pairs[point[1]] == point[2]:
            chosen.add(point[1])
    while len(chosen) < k:
        chosen.add(min(set(range(n)) - chosen))
    return [1 if v in chosen else 0 for v in range(n)]


class Home(Way):
    call, told = staticmethod(home), staticmethod(told_home)

    def comes(self, wanted, t, n, k, rows, s):
        """The solution written here, the one told by the words, and the answer are one, and it's right."""
        p = row_of(n, k, rows)
        self.assertTrue(told_right(KIND_TO[t], *puzzle_of(turn(t, p)[1:]), s), (t, p, s))
        self.assertEqual(told_home(t, n, k, rows, s), wanted)
        self.answer([len(wanted)] + wanted, t, p, s)
        self.assertEqual(right(KIND_FROM[t], p, wanted), [1])

    def holds(self, t, n, k, rows):
        """All of the turned puzzle come home as the words tell, and right; what goes there comes home as it was."""
        p = row_of(n, k, rows)
        found = searched(KIND_TO[t], *puzzle_of(turn(t, p)[1:]))
        for s in found:
            self.comes(told_home(t, n, k, rows, s), t, n, k, rows, s)
        paired = {v for pair in rows for v in pair}
        for s in told_solutions(KIND_FROM[t], n, k, rows):
            if t != 0 or all(s[v] == 0 or v in paired for v in range(n)):
                self.answer([n] + s, t, p, there(t, p, s)[1:])
        return len(found)


class TestTurn0(Home):
    def test_one_of_a_pair(self):
        # gate 0; 0 comes in at 1, goes out at 2; 1 comes in at 3, goes out at 4
        self.comes([1, 0], 0, 2, 1, [[0, 1]], [0, 1, 3, 4, 2])
        self.comes([0, 1], 0, 2, 1, [[0, 1]], [0, 3, 1, 2, 4])

    def test_gates_in_another_order(self):
        for trip in ([0, 2, 3, 1, 4, 5], [0, 4, 5, 1, 2, 3]):
            self.comes([1, 1], 0, 2, 2, [[0, 1]], trip)
        # gates 0, 1; 0's pair: 2, 3; 1's pairs: 4, 5 and 6, 7; 2's pair: 8, 9
        self.comes([1, 0, 1], 0, 3, 2, [[0, 1], [1, 2]], [0, 2, 4, 5, 3, 1, 8, 6, 7, 9])
        self.comes([1, 0, 1], 0, 3, 2, [[0, 1], [1, 2]], [0, 8, 6, 7, 9, 1, 2, 4, 5, 3])
        self.comes([0, 1, 1], 0, 3, 2, [[0, 1], [1, 2]], [0, 8, 9, 1, 4, 2, 3, 5, 6, 7])
        # gates 0, 1; 0's pairs: 2, 3 and 4, 5; 1's: 6, 7 and 8, 9; 2's: 10, 11 and 12, 13
        self.comes([1, 0, 1], 0, 3, 2, pairs(3), [0, 10, 11, 12, 8, 9, 13, 1, 2, 6, 7, 3, 4, 5])
        self.comes([1, 1, 0], 0, 3, 2, pairs(3), [0, 6, 7, 8, 12, 13, 9, 1, 2, 3, 4, 10, 11, 5])

    def test_gates_behind_one_another(self):
        # gates 0, 1, 2; 0's pairs: 3, 4 and 5, 6; 1's: 7, 8 and 9, 10; 2's: 11, 12 and 13, 14; gate 2 ahead of gate 1
        self.comes([1, 1, 1], 0, 3, 3, pairs(3), [0, 7, 8, 9, 10, 2, 11, 12, 13, 14, 1, 3, 4, 5, 6])
        self.comes([1, 1, 1], 0, 3, 3, pairs(3), [0, 11, 12, 13, 14, 1, 7, 8, 9, 10, 2, 3, 4, 5, 6])

    def test_no_pair(self):
        for n, k, wanted in ((0, 0, []), (1, 0, [0]), (1, 1, [1]), (3, 0, [0, 0, 0]), (3, 1, [1, 0, 0]),
                             (3, 2, [1, 1, 0]), (3, 3, [1, 1, 1])):
            self.comes(wanted, 0, n, k, [], [])
        self.answer([0], 0, [0, 0], [])

    def test_k_is_0(self):
        self.comes([0, 0], 0, 2, 0, [], [])
        for s in ([], [0, 1, 3, 2], [0, 2, 3, 1], [0, 2, 1, 3], [0, 1, 2, 3]):
            self.refused(-71, 0, row_of(2, 0, [[0, 1]]), s)

    def test_k_above_n(self):
        # it's turned into one point without roads, which no trip leads through
        for n, k in ((0, 1), (1, 2), (2, 3), (3, GREATEST)):
            for s in ([], [0], [1], [0, 0], [1] * n):
                self.refused(-71, 0, row_of(n, k, []), s)
                self.refused(-71, 0, row_of(n, k, pairs(n)), s)

    def test_k_above_how_many_are_in_a_pair(self):
        for trip in ([0, 2, 3, 1, 4, 5], [0, 4, 5, 1, 2, 3]):
            self.comes([1, 1, 1, 0], 0, 4, 3, [[0, 1]], trip)
            self.comes([1, 1, 0, 1], 0, 4, 3, [[1, 3]], trip)
            self.comes([1, 0, 1, 1], 0, 4, 3, [[2, 3]], trip)
            self.comes([1, 1, 1, 1], 0, 4, 4, [[1, 3]], trip)
            self.comes([0, 1, 0, 1], 0, 4, 2, [[1, 3]], trip)

    def test_chosen_but_in_no_pair(self):
        # what goes there with a guard in no pair comes home with another one in its stead
        p = row_of(3, 2, [[0, 1]])
        self.assertEqual(there(0, p, [1, 0, 1]), [6, 0, 2, 3, 1, 4, 5])
        self.answer([3, 1, 1, 0], 0, p, [0, 2, 3, 1, 4, 5])
        p = row_of(4, 3, [[2, 3]])
        self.assertEqual(there(0, p, [0, 1, 1, 1]), [6, 0, 2, 3, 1, 4, 5])
        self.answer([4, 1, 0, 1, 1], 0, p, [0, 2, 3, 1, 4, 5])


class TestTurn1(Home):
    def test_few_points(self):
        self.comes([], 1, 0, 0, [], [])
        self.answer([0], 1, [0, 0], [])
        for s in ([], [0], [0, 1, 2], [0, 2, 1]):
            self.refused(-71, 1, [1, 0], s)
        self.comes([0, 1], 1, 2, 0, [[0, 1], [1, 0]], [0, 1, 2, 3, 4, 5])
        self.comes([0, 1], 1, 2, 0, [[0, 1], [1, 0]], [0, 5, 4, 3, 2, 1])

    def test_both_ways_about(self):
        self.comes([0, 1, 2], 1, 3, 0, one_way_ring(3), [0, 1, 2, 3, 4, 5, 6, 7, 8])
        self.comes([0, 1, 2], 1, 3, 0, one_way_ring(3), [0, 8, 7, 6, 5, 4, 3, 2, 1])
        self.comes([0, 2, 1], 1, 3, 0, one_way_roads(3), [0, 1, 2, 6, 7, 8, 3, 4, 5])
        self.comes([0, 2, 1], 1, 3, 0, one_way_roads(3), [0, 5, 4, 3, 8, 7, 6, 2, 1])
        self.comes([0, 2, 3, 1], 1, 4, 0, one_way_roads(4), [0, 5, 4, 3, 11, 10, 9, 8, 7, 6, 2, 1])


class TestTurns2And3(Home):
    def test_as_it_is(self):
        square = [[0, 2], [0, 3], [1, 2], [1, 3]]
        for t in (2, 3):
            self.comes([], t, 0, 0, [], [])
            self.answer([0], t, [0, 0], [])
            self.refused(-71, t, [1, 0], [0])
            self.comes([0, 1], t, 2, 0, [[0, 1]], [0, 1])
            self.comes([0, 2, 1], t, 3, 0, pairs(3), [0, 2, 1])
            self.comes([0, 2, 1, 3], t, 4, 0, square, [0, 2, 1, 3])
            self.comes([0, 3, 1, 2], t, 4, 0, square, [0, 3, 1, 2])


class TestTurn4(Home):
    def test_few_points(self):
        self.comes([], 4, 0, 0, [], [])
        self.answer([0], 4, [0, 0], [])
        for s in ([], [0], [1]):
            self.refused(-71, 4, [1, 0], s)
        self.comes([0, 1], 4, 2, 0, [[0, 1], [1, 0]], [1, 0, 0, 1])

    def test_three_points(self):
        self.comes([0, 1, 2], 4, 3, 0, one_way_ring(3), [1, 0, 0, 0, 1, 0, 0, 0, 1])
        self.comes([0, 2, 1], 4, 3, 0, [[0, 2], [1, 0], [2, 1]], [1, 0, 0, 0, 0, 1, 0, 1, 0])

    def test_four_points(self):
        self.comes([0, 2, 3, 1], 4, 4, 0, one_way_roads(4), [1, 0, 0, 0, 0, 0, 1, 0, 0, 0, 0, 1, 0, 1, 0, 0])


class TestWhatHolds(Home):
    def test_small_guards(self):
        for n in range(4):
            for puzzle in all_puzzles(0, n):
                self.holds(0, *puzzle)
        # with more pairs the search takes long
        for puzzle in all_puzzles(0, 4):
            if len(puzzle[2]) < 5:
                self.holds(0, *puzzle)

    def test_small_trips(self):
        for t, most in ((1, 3), (2, 4), (3, 4), (4, 3)):
            for n in range(most + 1):
                for puzzle in all_puzzles(KIND_FROM[t], n):
                    self.holds(t, *puzzle)

    def test_drawn_puzzles(self):
        source = random.Random(11)
        for t in range(5):
            held = 0
            for n in (4, 4, 5, 5) if t != 4 else (4, 4, 4, 4):
                for again in range(5):
                    n, k, rows = drawn_puzzle(source, KIND_FROM[t], n)
                    held += self.holds(t, n, k, rows[:4] if t == 0 else rows)
            self.assertGreater(held, 15)


class TestGreat(Home):
    """Puzzles at the edge of the work; what they're turned into is greater than right takes."""

    def comes_from_great(self, wanted, t, n, k, rows, s):
        later = turn(t, row_of(n, k, rows))[1:]
        self.assertEqual(right(KIND_TO[t], later, s), [-28])
        self.comes(wanted, t, n, k, rows, s)
        # nearly the same ones aren't right
        for other in (s[:-1], s + [0], s[:1] + s[:0:-1] + [0], s[1:] + s[:1], s[:-1] + [GREATEST_SMALL]):
            self.refused(-71, t, row_of(n, k, rows), other)

    def test_guards(self):
        for chosen in ([1, 0] * 25, [0, 1] * 25):
            p = row_of(50, 25, ring(50))
            self.comes_from_great(chosen, 0, 50, 25, ring(50), there(0, p, chosen)[1:])
            self.refused(-28, 0, row_of(51, 25, ring(50)), there(0, p, chosen)[1:])
        self.comes([1] * 7 + [0] * 193, 0, 200, 7, [], [])
        self.comes([1] * 200, 0, 200, 200, [], [])
        self.refused(-71, 0, row_of(200, 201, []), [])
        self.refused(-28, 0, row_of(201, 7, []), [])

    def test_short_trip(self):
        trip = list(range(50))
        for s in (trip, [0] + trip[:0:-1]):
            self.comes_from_great(s, 2, 50, 0, ring(50), s)
            self.refused(-28, 2, row_of(51, 0, ring(50)), s)
            # each road is there, but one of them is 2 long, or two are
            self.refused(-71, 2, row_of(50, 0, ring(50)[1:]), s)
            self.refused(-71, 2, row_of(50, 0, ring(50)), s[:7] + [s[8], s[7]] + s[9:])

    def test_trips(self):
        trip = list(range(50))
        threes = list(range(150))
        self.comes(trip, 1, 50, 0, one_way_ring(50), threes)
        self.comes(trip, 1, 50, 0, one_way_ring(50), [0] + threes[:0:-1])
        self.comes(trip, 3, 50, 0, ring(50), trip)
        self.refused(-28, 1, row_of(51, 0, one_way_ring(50)), threes)
        self.refused(-28, 3, row_of(51, 0, ring(50)), trip)

    def test_wishes(self):
        # 122 times 122 and 29 times 29 times 29 are 39,273; with one road more 125 times 125 makes it 40,014
        rows = sorted(one_way_ring(29) + [[5, 3], [7, 3]])
        flags = [1 if v % 30 == 0 else 0 for v in range(29 * 29)]
        self.comes_from_great(list(range(29)), 4, 29, 0, rows, flags)
        self.refused(-71, 4, row_of(29, 0, rows[1:]), flags)
        swapped = flags[:29] + flags[58:87] + flags[29:58] + flags[87:]
        self.refused(-71, 4, row_of(29, 0, rows), swapped)
        for i in (0, 1, 30, 400, 840):
            self.refused(-71, 4, row_of(29, 0, rows), flags[:i] + [1 - flags[i]] + flags[i + 1:])
        self.refused(-28, 4, row_of(29, 0, sorted(rows + [[9, 3]])), flags)

    def test_not_right_at_the_edge(self):
        for t in range(5):
            for n, rows in edges_of_work(t)[0]:
                p = row_of(n, 1 if t == 0 else 0, rows)
                for s in ([GREATEST_SMALL], [0] * 2000) + (([],) if t > 0 or rows else ()):
                    self.refused(-71, t, p, s)


class TestRefusals(Home):
    # Of each turn a puzzle's row, and a right solution of the puzzle that it's turned into.
    RIGHT = ((0, row_of(3, 2, [[0, 1], [1, 2]]), [0, 8, 6, 7, 9, 1, 2, 4, 5, 3]),
             (1, row_of(3, 0, one_way_ring(3)), [0, 8, 7, 6, 5, 4, 3, 2, 1]),
             (2, row_of(4, 0, ring(4)), [0, 1, 2, 3]), (3, row_of(4, 0, ring(4)), [0, 3, 2, 1]),
             (4, row_of(3, 0, one_way_ring(3)), [1, 0, 0, 0, 1, 0, 0, 0, 1]))

    def test_22_and_28(self):
        self.refuses_puzzles()

    def test_too_long_or_too_short(self):
        for t, p, s in self.RIGHT:
            self.refuses_lengths(t, p, s)

    def test_no_number_where_there_should_be_none(self):
        self.refuses_where_none_should_be()
        for s in ([0], [1, 0], [1, 1, 0]):
            self.refused(-71, 0, [3, 2], s)

    def test_numbers_that_a_solution_cannot_have(self):
        for t, p, s in self.RIGHT:
            self.refuses_numbers(t, p, s, 2 if t == 4 else len(s))

    def test_of_the_right_length_but_not_right(self):
        for t, p, s in self.RIGHT:
            later = puzzle_of(turn(t, p)[1:])
            others = [s[:i] + [number] + s[i + 1:] for i in range(len(s)) for number in range(min(len(s), 3))]
            others += [s[:i] + s[i + 1:] + s[i:i + 1] for i in range(len(s))] + [[0] * len(s), [1] * len(s)]
            others = [other for other in others if not told_right(KIND_TO[t], *later, other)]
            self.assertGreater(len(others), 8)
            for other in others:
                self.refused(-71, t, p, other)
        # the roads are there, but 5 long where 4 are
        self.refused(-71, 2, row_of(4, 0, [[0, 1], [1, 2], [2, 3]]), [0, 1, 2, 3])
        self.refused(-71, 2, [2, 0], [0, 1])

    def test_a_solution_of_the_puzzle_itself(self):
        both_ways = row_of(2, 0, [[0, 1], [1, 0]])
        for t, p, s in ((0, row_of(2, 1, [[0, 1]]), [1, 0]), (0, row_of(3, 1, []), [1, 0, 0]), (1, both_ways, [0, 1]),
                        (1, row_of(3, 0, one_way_ring(3)), [0, 1, 2]), (4, both_ways, [0, 1]),
                        (4, row_of(3, 0, one_way_ring(3)), [0, 1, 2])):
            self.assertEqual(right(KIND_FROM[t], p, s), [1])
            self.refused(-71, t, p, s)

    def test_no_right_solution_at_all(self):
        for t, n, k, rows in ((0, 3, 1, pairs(3)), (1, 3, 0, [[0, 1], [1, 2]]), (2, 3, 0, [[0, 1], [1, 2]]),
                              (3, 3, 0, [[0, 1], [1, 2]]), (4, 3, 0, [[0, 1], [1, 2]])):
            later = turn(t, row_of(n, k, rows))[1:]
            self.assertEqual(searched(KIND_TO[t], *puzzle_of(later)), [])
            for s in ([], list(range(later[0])), [0] + list(range(later[0]))[:0:-1], [1, 0, 0, 0, 1, 0, 0, 0, 1]):
                self.refused(-71, t, row_of(n, k, rows), s)


class TestHandedIn(Home):
    def test_nothing_is_changed(self):
        for t, p, s in self.handed_in(TestRefusals.RIGHT):
            self.changes_nothing(t, p, s)

    def test_each_time_is_the_first(self):
        for again in range(3):
            for t, p, s in TestRefusals.RIGHT:
                self.answer_told(t, p, s)
                self.refused(-71, t, p, [])


if __name__ == "__main__":
    unittest.main()
