"""right: what is right of each kind, the corners, and the refusals."""

import random
import unittest
from itertools import product

from roundtripsdesk.puzzles import right
from tests.helper import GREATEST, GREATEST_SMALL, Kept, drawn_puzzle, row_of, told_right

GUARDED_PATH = row_of(4, 2, [[0, 1], [1, 2], [2, 3]])
ONE_WAY_RING = row_of(3, 0, [[0, 1], [1, 2], [2, 0]])
RING = row_of(4, 0, [[0, 1], [0, 3], [1, 2], [2, 3]])
SHORT_RING = row_of(3, 6, [[0, 1, 1], [0, 2, 3], [1, 2, 2]])
THREE_WISHES = row_of(3, 0, [[0, 3], [2, 5], [1, 4]])


class Answers(unittest.TestCase):
    def answer(self, wanted, c, p, s):
        given = right(c, p, s)
        self.assertIs(type(given), list)
        self.assertEqual(given, [wanted], (c, p, s))
        self.assertIs(type(given[0]), int)

    def right_ones(self, c, p, solutions):
        for s in solutions:
            self.answer(1, c, p, s)

    def wrong_ones(self, c, p, solutions):
        for s in solutions:
            self.answer(0, c, p, s)

    def refused(self, number, c, p, s=()):
        self.answer(number, c, p, list(s))


class TestKinds(Answers):
    def test_guards(self):
        self.right_ones(0, GUARDED_PATH, [[0, 1, 1, 0], [1, 0, 1, 0], [0, 1, 0, 1]])
        # a pair unguarded; too many chosen; too few chosen
        self.wrong_ones(0, GUARDED_PATH, [[1, 1, 0, 0], [1, 0, 0, 1], [0, 0, 1, 1]])
        self.wrong_ones(0, GUARDED_PATH, [[1, 1, 1, 0], [1, 1, 1, 1], [0, 1, 0, 0], [0, 0, 0, 0]])

    def test_guards_of_another_form(self):
        self.wrong_ones(0, GUARDED_PATH, [[], [0, 1, 1], [0, 1, 1, 0, 0], [0, 1, 1, 0, 1]])
        self.wrong_ones(0, GUARDED_PATH, [[0, 2, 0, 0], [0, 2, 1, 0], [0, 1, 1, 2], [0, 1, 1, GREATEST_SMALL]])
        # the sum of the numbers is k, the chosen ones aren't
        self.wrong_ones(0, row_of(3, 2, [[0, 1]]), [[2, 0, 0], [0, 2, 0]])

    def test_one_way_roads(self):
        self.right_ones(1, ONE_WAY_RING, [[0, 1, 2]])
        self.wrong_ones(1, ONE_WAY_RING, [[0, 2, 1]])
        both = row_of(3, 0, [[0, 1], [0, 2], [1, 0], [1, 2], [2, 0], [2, 1]])
        self.right_ones(1, both, [[0, 1, 2], [0, 2, 1]])

    def test_one_way_road_is_lacking(self):
        for lacking in ([0, 1], [1, 2], [2, 0]):
            rows = [road for road in ([0, 1], [1, 2], [2, 0]) if road != lacking]
            self.wrong_ones(1, row_of(3, 0, rows), [[0, 1, 2], [0, 2, 1]])
        # the road home leads the other way
        self.wrong_ones(1, row_of(3, 0, [[0, 1], [0, 2], [1, 2]]), [[0, 1, 2]])

    def test_roads(self):
        self.right_ones(2, RING, [[0, 1, 2, 3], [0, 3, 2, 1]])
        self.wrong_ones(2, RING, [[0, 2, 1, 3], [0, 1, 3, 2], [0, 2, 3, 1], [0, 3, 1, 2]])

    def test_road_is_lacking(self):
        roads = [[0, 1], [0, 3], [1, 2], [2, 3]]
        for lacking in roads:
            rows = [road for road in roads if road != lacking]
            self.wrong_ones(2, row_of(4, 0, rows), [[0, 1, 2, 3], [0, 3, 2, 1]])

    def test_short_trip(self):
        self.right_ones(3, SHORT_RING, [[0, 1, 2], [0, 2, 1]])
        self.right_ones(3, row_of(3, 7, [[0, 1, 1], [0, 2, 3], [1, 2, 2]]), [[0, 1, 2]])
        self.wrong_ones(3, row_of(3, 5, [[0, 1, 1], [0, 2, 3], [1, 2, 2]]), [[0, 1, 2], [0, 2, 1]])
        self.wrong_ones(3, row_of(3, 99, [[0, 1, 1], [0, 2, 3]]), [[0, 1, 2], [0, 2, 1]])
        # a road of no length is a road, and k = 0 may be kept
        self.right_ones(3, row_of(3, 0, [[0, 1, 0], [0, 2, 0], [1, 2, 0]]), [[0, 1, 2]])
        self.wrong_ones(3, row_of(3, 0, [[0, 1, 0], [0, 2, 1], [1, 2, 0]]), [[0, 1, 2]])

    def test_trips_of_another_form(self):
        every = [[a, b] for a in range(4) for b in range(4) if a != b]
        pairs = [pair for pair in every if pair[0] < pair[1]]
        puzzles = {1: row_of(4, 0, every), 2: row_of(4, 0, pairs), 3: row_of(4, 99, [r + [1] for r in pairs])}
        for c, p in puzzles.items():
            self.right_ones(c, p, [[0, 1, 2, 3], [0, 3, 1, 2]])
            # too short, too long, not from point 0
            self.wrong_ones(c, p, [[], [0], [0, 1, 2], [0, 1, 2, 3, 0], [0, 1, 2, 3, 1], [0, 1, 2, 3, 4]])
            self.wrong_ones(c, p, [[1, 2, 3, 0], [3, 0, 1, 2], [1, 0, 2, 3]])
            # a point twice; a number that is no point
            self.wrong_ones(c, p, [[0, 1, 0, 1], [0, 1, 2, 1], [0, 1, 2, 4], [0, 4, 2, 3], [0, 1, 2, GREATEST_SMALL]])

    def test_wishes(self):
        self.right_ones(4, THREE_WISHES, [[1, 1, 1], [0, 0, 0]])
        self.wrong_ones(4, THREE_WISHES, [[0, 1, 0], [1, 1, 0], [1, 0, 0], [0, 1, 1], [0, 0, 1]])

    def test_each_saying(self):
        self.right_ones(4, row_of(2, 0, [[0]]), [[1, 0], [1, 1]])
        self.wrong_ones(4, row_of(2, 0, [[0]]), [[0, 0], [0, 1]])
        self.right_ones(4, row_of(2, 0, [[1]]), [[0, 0], [0, 1]])
        self.wrong_ones(4, row_of(2, 0, [[1]]), [[1, 0], [1, 1]])
        self.right_ones(4, row_of(2, 0, [[2]]), [[0, 1], [1, 1]])
        self.right_ones(4, row_of(2, 0, [[3]]), [[0, 0], [1, 0]])
        self.wrong_ones(4, row_of(2, 0, [[3]]), [[0, 1], [1, 1]])

    def test_wishes_in_any_order_and_twice(self):
        self.right_ones(4, row_of(2, 0, [[2], [0], [2], [0, 2], [0]]), [[1, 1]])
        self.wrong_ones(4, row_of(2, 0, [[2], [0], [2], [0, 2], [0]]), [[1, 0], [0, 1]])

    def test_empty_wish(self):
        self.wrong_ones(4, row_of(1, 0, [[]]), [[0], [1]])
        self.wrong_ones(4, row_of(1, 0, [[0], []]), [[0], [1]])
        self.wrong_ones(4, row_of(0, 0, [[]]), [[]])

    def test_wishes_of_another_form(self):
        self.wrong_ones(4, THREE_WISHES, [[], [1, 1], [1, 1, 1, 1], [1, 1, 1, 0], [2, 1, 1], [1, 1, GREATEST_SMALL]])
        self.wrong_ones(4, row_of(2, 0, []), [[0], [0, 0, 0], [0, 2], [3, 1]])

    def test_long_solutions(self):
        self.right_ones(0, row_of(1000, 0, []), [[0] * 1000])
        self.right_ones(4, row_of(1000, 0, []), [[0] * 1000, [1] * 1000, [0, 1] * 500])
        self.wrong_ones(0, row_of(1000, 0, []), [[0] * 2000])
        self.wrong_ones(1, row_of(1000, 0, []), [list(range(1000)), [0] * 2000])
        self.wrong_ones(2, row_of(0, 0, []), [[GREATEST_SMALL] * 2000])
        ring = [[a, a + 1] for a in range(131)] + [[131, 0]]
        self.right_ones(1, row_of(132, 0, ring), [list(range(132))])
        self.wrong_ones(1, row_of(132, 0, ring), [[0] + list(range(131, 0, -1))])

    def test_every_list_against_the_words(self):
        source = random.Random(22)
        for c in range(5):
            for n in (0, 1, 2, 2, 3, 3, 3, 3, 4, 4, 4):
                n, k, rows = drawn_puzzle(source, c, n)
                for length in (n - 1, n, n + 1):
                    for s in product(range(max(n, 2) + 1), repeat=max(length, 0)):
                        self.answer(int(told_right(c, n, k, rows, s)), c, row_of(n, k, rows), list(s))


class TestCorners(Answers):
    def test_no_pair(self):
        self.right_ones(0, row_of(3, 0, []), [[0, 0, 0]])
        self.wrong_ones(0, row_of(3, 0, []), [[0, 1, 0]])
        self.right_ones(0, row_of(3, 1, []), [[0, 1, 0], [0, 0, 1]])
        self.wrong_ones(0, row_of(3, 1, []), [[0, 0, 0], [1, 1, 0]])

    def test_someone_in_no_pair_guards(self):
        p = row_of(4, 2, [[0, 1]])
        self.right_ones(0, p, [[1, 1, 0, 0], [1, 0, 1, 0], [0, 1, 0, 1]])
        self.wrong_ones(0, p, [[0, 0, 1, 1]])

    def test_k_is_0(self):
        self.wrong_ones(0, row_of(2, 0, [[0, 1]]), [[0, 0], [1, 0], [0, 1], [1, 1]])
        self.right_ones(0, row_of(2, 0, []), [[0, 0]])
        self.right_ones(3, row_of(2, 0, [[0, 1, 0]]), [[0, 1]])
        self.wrong_ones(3, row_of(2, 0, [[0, 1, 1]]), [[0, 1]])

    def test_k_is_n_and_above(self):
        self.right_ones(0, row_of(2, 2, [[0, 1]]), [[1, 1]])
        self.wrong_ones(0, row_of(2, 3, [[0, 1]]), [[1, 1], [1, 1, 1], [1, 2], [0, 0]])
        self.wrong_ones(0, row_of(2, GREATEST, [[0, 1]]), [[1, 1]])
        self.wrong_ones(0, row_of(0, 1, []), [[], [1]])

    def test_no_point(self):
        for c in range(5):
            self.right_ones(c, row_of(0, 0, []), [[]])
            self.wrong_ones(c, row_of(0, 0, []), [[0], [1], [0, 0]])
        self.right_ones(3, row_of(0, GREATEST, []), [[]])

    def test_one_point(self):
        for c in (1, 2, 3):
            self.wrong_ones(c, row_of(1, 0, []), [[0], [], [1], [0, 0]])
        self.wrong_ones(3, row_of(1, GREATEST, []), [[0]])
        self.right_ones(0, row_of(1, 1, []), [[1]])
        self.right_ones(4, row_of(1, 0, []), [[0], [1]])

    def test_two_points(self):
        self.right_ones(1, row_of(2, 0, [[0, 1], [1, 0]]), [[0, 1]])
        self.wrong_ones(1, row_of(2, 0, [[0, 1], [1, 0]]), [[1, 0]])
        self.wrong_ones(1, row_of(2, 0, [[0, 1]]), [[0, 1]])
        self.wrong_ones(1, row_of(2, 0, [[1, 0]]), [[0, 1]])
        self.wrong_ones(2, row_of(2, 0, []), [[0, 1]])

    def test_road_there_and_back(self):
        self.right_ones(2, row_of(2, 0, [[0, 1]]), [[0, 1]])
        self.right_ones(3, row_of(2, 10, [[0, 1, 5]]), [[0, 1]])
        self.wrong_ones(3, row_of(2, 9, [[0, 1, 5]]), [[0, 1]])
        self.wrong_ones(3, row_of(2, 5, [[0, 1, 5]]), [[0, 1]])


class TestRefusals(Answers):
    def test_c_is_no_kind(self):
        for c in (5, 6, 22, GREATEST_SMALL):
            self.refused(-22, c, row_of(0, 0, []))
            self.refused(-22, c, row_of(2, 0, [[0, 1]]), [0, 1])

    def test_p_is_no_row(self):
        for c in range(5):
            for p in ([], [0], [3], [GREATEST]):
                self.refused(-22, c, p)
            for p in ([2, 0, 1], [2, 0, 2], [2, 0, 2, 0], [2, 0, 3, 0, 1], [2, 0, GREATEST, 0, 1]):
                self.refused(-22, c, p)
            whole = {0: [[0, 1], [0, 2]], 1: [[0, 1], [0, 2]], 2: [[0, 1], [0, 2]], 3: [[0, 1, 1], [0, 2, 1]]}
            p = row_of(3, 0, whole.get(c, [[0, 2], [0, 4]]))
            self.answer(0, c, p, [])
            self.refused(-22, c, p[:-1])
            self.refused(-22, c, p + [2, 1])
            self.refused(-22, c, p + [1])

    def broken(self, c, n, k, rows):
        self.refused(-22, c, row_of(n, k, rows))
        self.refused(-22, c, row_of(n, k, rows), [0] * n)

    def test_pairs_of_kinds_0_and_2(self):
        for c in (0, 2):
            self.answer(0, c, row_of(3, 0, [[0, 1], [0, 2], [1, 2]]), [])
            # not in order by the first, by the second; twice; the lesser last; one with itself
            self.broken(c, 3, 0, [[1, 2], [0, 1]])
            self.broken(c, 3, 0, [[1, 2], [0, 2]])
            self.broken(c, 3, 0, [[0, 2], [0, 1]])
            self.broken(c, 3, 0, [[0, 1], [0, 2], [0, 1]])
            self.broken(c, 3, 0, [[0, 1], [0, 1]])
            self.broken(c, 3, 0, [[1, 0]])
            self.broken(c, 3, 0, [[1, 1]])
            # too great
            self.broken(c, 3, 0, [[0, 3]])
            self.broken(c, 3, 0, [[3, 4]])
            self.broken(c, 3, 0, [[0, GREATEST]])
            self.broken(c, 0, 0, [[0, 1]])
            # of another length, also behind one that's as it must be
            for row in ([], [0], [2], [0, 2, 2], [0, 2, 1], [1, 2, 2, 2]):
                self.broken(c, 3, 0, [row])
                self.broken(c, 3, 0, [[0, 1], row])

    def test_one_way_roads_of_kind_1(self):
        self.answer(0, 1, row_of(3, 0, [[0, 1], [0, 2], [1, 0], [2, 1]]), [])
        self.broken(1, 3, 0, [[1, 0], [0, 1]])
        self.broken(1, 3, 0, [[2, 1], [1, 2]])
        self.broken(1, 3, 0, [[0, 2], [0, 1]])
        self.broken(1, 3, 0, [[0, 1], [0, 1]])
        self.broken(1, 3, 0, [[0, 0]])
        self.broken(1, 3, 0, [[2, 2]])
        self.broken(1, 3, 0, [[0, 3]])
        self.broken(1, 3, 0, [[3, 0]])
        self.broken(1, 3, 0, [[GREATEST, 0]])
        self.broken(1, 1, 0, [[0, 0]])
        for row in ([], [0], [2], [0, 2, 1], [1, 2, 2, 2]):
            self.broken(1, 3, 0, [row])
            self.broken(1, 3, 0, [[0, 1], row])

    def test_roads_of_kind_3(self):
        self.answer(0, 3, row_of(3, 0, [[0, 1, 9], [0, 2, 0], [1, 2, 4]]), [])
        self.broken(3, 3, 0, [[1, 2, 1], [0, 1, 1]])
        self.broken(3, 3, 0, [[1, 2, 1], [0, 2, 1]])
        self.broken(3, 3, 0, [[0, 2, 1], [0, 1, 2]])
        # a pair twice, whatever the lengths are
        self.broken(3, 3, 0, [[0, 1, 1], [0, 1, 1]])
        self.broken(3, 3, 0, [[0, 1, 1], [0, 1, 2]])
        self.broken(3, 3, 0, [[0, 1, 2], [0, 1, 1]])
        self.broken(3, 3, 0, [[1, 0, 1]])
        self.broken(3, 3, 0, [[1, 1, 1]])
        self.broken(3, 3, 0, [[0, 3, 1]])
        self.broken(3, 3, 0, [[3, 4, 1]])
        self.broken(3, 3, 0, [[0, GREATEST, 1]])
        for row in ([], [0], [1, 2], [1, 2, 1, 1]):
            self.broken(3, 3, 0, [row])
            self.broken(3, 3, 0, [[0, 1, 1], row])

    def test_wishes_of_kind_4(self):
        self.answer(0, 4, row_of(3, 0, [[1, 3, 5], [0, 5], [], [4], [4]]), [])
        self.broken(4, 3, 0, [[2, 0]])
        self.broken(4, 3, 0, [[0, 4, 2]])
        # sayings of one flag: the same, and its opposite
        self.broken(4, 3, 0, [[0, 0]])
        self.broken(4, 3, 0, [[0, 1]])
        self.broken(4, 3, 0, [[1, 0]])
        self.broken(4, 3, 0, [[0, 4, 5]])
        # too great
        self.broken(4, 3, 0, [[6]])
        self.broken(4, 3, 0, [[7]])
        self.broken(4, 3, 0, [[0, 2, 4, 6]])
        self.broken(4, 3, 0, [[0], [GREATEST]])
        self.broken(4, 0, 0, [[0]])

    def test_k_must_be_0(self):
        for c in (1, 2, 4):
            for k in (1, 3, GREATEST):
                self.broken(c, 3, k, [])
                self.broken(c, 0, k, [])
        for c in (0, 3):
            for k in (1, 3, GREATEST):
                self.answer(0, c, row_of(3, k, []), [])

    def test_size(self):
        for c in range(5):
            self.answer(0, c, row_of(1000, 0, []), [])
            self.refused(-28, c, row_of(1001, 0, []))
            self.refused(-28, c, row_of(1001, 0, []), [0] * 1001)
            row = [0, 1, 7] if c == 3 else [0, 2] if c == 4 else [0, 1]
            self.answer(0, c, row_of(1000 - 1 - len(row), 0, [row]), [])
            self.refused(-28, c, row_of(1001 - 1 - len(row), 0, [row]))
        self.answer(0, 4, row_of(602, 0, [[]] * 398), [])
        self.refused(-28, 4, row_of(603, 0, [[]] * 398))
        # k isn't of the size, nor is how long a row is
        self.answer(0, 0, row_of(1000, 1001, []), [])
        pairs = [[0, b] for b in range(1, 101)]
        self.answer(1, 0, row_of(700, 1, pairs), [1] + [0] * 699)
        self.refused(-28, 0, row_of(701, 1, pairs))

    def test_great_numbers(self):
        for c in range(5):
            self.refused(-28, c, row_of(GREATEST, 0, []))
            self.refused(-22, c, [GREATEST, 0, GREATEST])
            self.refused(-22, c, [GREATEST] * 400)
        for c in (0, 2):
            self.refused(-28, c, row_of(GREATEST, 0, [[GREATEST - 2, GREATEST - 1]]))
            self.refused(-22, c, row_of(GREATEST, 0, [[GREATEST - 1, GREATEST]]))
        self.refused(-28, 0, row_of(GREATEST, GREATEST, []))
        self.refused(-28, 1, row_of(GREATEST, 0, [[GREATEST - 1, GREATEST - 2]]))
        self.refused(-22, 1, row_of(GREATEST, 0, [[GREATEST, 0]]))
        self.refused(-28, 3, row_of(GREATEST, GREATEST, [[0, GREATEST - 1, GREATEST]]))
        self.refused(-28, 4, row_of(GREATEST, 0, [[GREATEST]]))
        self.refused(-28, 4, row_of(GREATEST // 2 + 1, 0, [[GREATEST]]))
        self.refused(-22, 4, row_of(GREATEST // 2, 0, [[GREATEST]]))

    def test_great_lengths_are_added_up_whole(self):
        self.right_ones(3, row_of(2, GREATEST - 1, [[0, 1, GREATEST // 2]]), [[0, 1]])
        self.wrong_ones(3, row_of(2, GREATEST, [[0, 1, GREATEST // 2 + 1]]), [[0, 1]])
        self.wrong_ones(3, row_of(2, GREATEST, [[0, 1, GREATEST]]), [[0, 1]])

    def test_22_comes_before_28(self):
        self.refused(-22, 5, row_of(1001, 0, []))
        for c in range(5):
            self.refused(-22, c, [1001, 0, 1])
            self.refused(-22, c, row_of(GREATEST, 0, [[0, 1, 2, 3]]))
        for c in (1, 2, 4):
            self.refused(-22, c, row_of(1001, 1, []))
        for c in (0, 2):
            self.refused(-22, c, row_of(1001, 0, [[1, 2], [0, 1]]))


class TestHandedIn(Answers):
    PUZZLES = (GUARDED_PATH, ONE_WAY_RING, RING, SHORT_RING, THREE_WISHES, [], [1], [2000, 0], [2, 0, 2, 1])

    def test_nothing_is_changed(self):
        for c in range(6):
            for puzzle in self.PUZZLES:
                for solution in ([], [0, 1, 2], [0, 2, 1], [2, 1, 0], [0, 1, 1, 0], [0, 3, 2, 1], [5, 5, 5]):
                    p, s = list(puzzle), list(solution)
                    right(c, p, s)
                    self.assertEqual(p, puzzle)
                    self.assertEqual(s, solution)

    def test_nothing_is_changed_for_a_while_either(self):
        for c in range(5):
            for puzzle in self.PUZZLES:
                for solution in ([], [0, 1, 2], [0, 1, 1, 0], [0, 3, 2, 1]):
                    self.assertEqual(right(c, Kept(puzzle), Kept(solution)), right(c, puzzle, solution))

    def test_each_time_is_the_first(self):
        for again in range(3):
            for c, p, s in ((0, GUARDED_PATH, [0, 1, 1, 0]), (1, ONE_WAY_RING, [0, 1, 2]), (2, RING, [0, 3, 2, 1]),
                            (3, SHORT_RING, [0, 2, 1]), (4, THREE_WISHES, [1, 1, 1])):
                self.answer(1, c, p, s)
                answered = right(c, p, s)
                answered.append(again)
                self.answer(0, c, p, s[:-1])


if __name__ == "__main__":
    unittest.main()
