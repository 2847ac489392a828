"""turn: the turned rows number by number, what holds of them, the corners, and the refusals."""

import random
import unittest
from itertools import combinations

from roundtripsdesk.puzzles import first, many, right, turn
from tests.helper import (GREATEST, KIND_FROM, KIND_TO, Kept, all_puzzles, drawn_puzzle, edges_of_work, long_roads,
                          one_way_roads, pairs, puzzle_of, refused_turns, row_of, searched, told_points,
                          told_solutions)


def told_turned(t, n, k, rows):
    """The turned puzzle's n, k and rows, straight from the document's words."""
    if t == 0:
        return told_guards(n, k, rows)
    if t == 1:
        roads = [{3 * v, 3 * v + 1} for v in range(n)] + [{3 * v + 1, 3 * v + 2} for v in range(n)]
        roads += [{3 * a + 2, 3 * b} for a, b in rows]
        return 3 * n, 0, sorted(sorted(road) for road in roads)
    if t == 2:
        return n, n, [[a, b, 1 if [a, b] in rows else 2] for a, b in combinations(range(n), 2)]
    if t == 3:
        return n, 0, sorted(rows + [[b, a] for a, b in rows])
    return n * n, 0, told_wishes(n, rows)


def told_guards(n, k, rows):
    if k > n:
        return 1, 0, []
    points = told_points(n, k, rows)
    gates = [point for point in points if point[0] == "gate"]
    roads = []
    for v in sorted({v for pair in rows for v in pair}):
        stops = [tuple(pair) for pair in rows if v in pair]
        roads += [(gate, ("in", v, stops[0])) for gate in gates]
        roads += [(("out", v, stops[-1]), gate) for gate in gates]
        roads += [(("in", v, stop), ("out", v, stop)) for stop in stops]
        roads += [((way, v, stop), (way, sum(stop) - v, stop)) for stop in stops for way in ("in", "out")]
        roads += [(("out", v, stop), ("in", v, later)) for stop, later in zip(stops, stops[1:])]
    return len(points), 0, sorted([points.index(a), points.index(b)] for a, b in roads)


def told_wishes(n, rows):
    if n == 0:
        return []
    flags = [(place, v) for place in range(n) for v in range(n)]
    number = {flag: i for i, flag in enumerate(flags)}

    def downs(*both):
        return sorted(2 * number[flag] + 1 for flag in both)

    wishes = [[0]]
    for place in range(n):
        wishes.append([2 * number[flag] for flag in flags if flag[0] == place])
        wishes += [downs((place, v), (place, w)) for v, w in combinations(range(n), 2)]
    wishes += [downs((i, v), (j, v)) for v in range(n) for i, j in combinations(range(n), 2)]
    for place in range(n):
        later = place + 1 if place + 1 < n else 0
        wishes += [downs((place, u), (later, w)) for u, w in one_way_roads(n) if [u, w] not in rows]
    return wishes + ([[]] if n == 1 else [])


def is_of_kind(c, n, k, rows):
    """What the document asks of a puzzle of kind c, straight from its words."""
    if c == 4:
        flags = [[saying // 2 for saying in wish] for wish in rows]
        return k == 0 and all(row == sorted(set(row)) and all(v < n for v in row) for row in flags)
    ends = [row[:2] for row in rows]
    if ends != [list(pair) for pair in sorted({tuple(pair) for pair in ends})]:
        return False
    if any(len(row) != (3 if c == 3 else 2) or max(row[:2]) >= n or row[0] == row[1] for row in rows):
        return False
    return (k == 0 or c in (0, 3)) and (c == 1 or all(a < b for a, b in ends))


class Turns(unittest.TestCase):
    def answer(self, wanted, t, p):
        given = turn(t, p)
        self.assertIs(type(given), list)
        # not by assertEqual: it takes minutes to show how two long lists differ
        self.assertTrue(given == wanted, (t, p, given[:100], wanted[:100]))
        self.assertEqual({type(number) for number in given}, {int})

    def turned(self, wanted, t, n, k, rows):
        """The row written here, the one told by the words, and the answer are one."""
        self.assertEqual(row_of(*told_turned(t, n, k, rows)), wanted)
        self.answer([len(wanted)] + wanted, t, row_of(n, k, rows))

    def refused(self, number, t, p):
        self.answer([number], t, p)

    def holds(self, t, n, k, rows):
        """The turned puzzle is the told one, of its kind, and has as many right solutions as promised."""
        p = row_of(n, k, rows)
        turned = turn(t, p)[1:]
        self.answer([len(turned)] + row_of(*told_turned(t, n, k, rows)), t, p)
        c, later = KIND_TO[t], puzzle_of(turned)
        self.assertTrue(is_of_kind(c, *later), (t, p))
        self.assertIn(right(c, turned, []), ([0], [1], [-28]))
        here, then = len(told_solutions(KIND_FROM[t], n, k, rows)), len(searched(c, *later))
        self.assertEqual(here > 0, then > 0, (t, p))
        if t == 1 and n > 0:
            self.assertEqual(then, 2 * here)
        elif t != 0:
            self.assertEqual(then, here)
        return here


class TestTurn0(Turns):
    def test_one_pair(self):
        # gate 0; 0 comes in at 1, goes out at 2; 1 comes in at 3, goes out at 4
        self.turned([5, 0, 2, 0, 1, 2, 0, 3, 2, 1, 2, 2, 1, 3, 2, 2, 0, 2, 2, 4, 2, 3, 1, 2, 3, 4, 2, 4, 0, 2, 4, 2],
                    0, 2, 1, [[0, 1]])
        self.assertEqual(first(1, turn(0, row_of(2, 1, [[0, 1]]))[1:]), [5, 0, 1, 3, 4, 2])
        self.assertEqual(many(1, turn(0, row_of(2, 1, [[0, 1]]))[1:]), [2])

    def test_two_pairs(self):
        # gate 0; 0's pair: 1, 2; 1's pairs: 3, 4 and 5, 6; 2's pair: 7, 8
        roads = [[0, 1], [0, 3], [0, 7], [1, 2], [1, 3], [2, 0], [2, 4], [3, 1], [3, 4], [4, 2], [4, 5],
                 [5, 6], [5, 7], [6, 0], [6, 8], [7, 5], [7, 8], [8, 0], [8, 6]]
        self.turned(row_of(9, 0, roads), 0, 3, 1, [[0, 1], [1, 2]])
        self.assertEqual(right(1, row_of(9, 0, roads), [0, 3, 1, 2, 4, 5, 7, 8, 6]), [1])

    def test_order_of_someone_s_pairs(self):
        # 1's pair with 0 stands before its pair with 2, though 0's pair with 2 stands between them
        roads = [[0, 1], [0, 5], [0, 9], [1, 2], [1, 5], [2, 3], [2, 6], [3, 4], [3, 9], [4, 0], [4, 10],
                 [5, 1], [5, 6], [6, 2], [6, 7], [7, 8], [7, 11], [8, 0], [8, 12], [9, 3], [9, 10], [10, 4],
                 [10, 11], [11, 7], [11, 12], [12, 0], [12, 8]]
        self.turned(row_of(13, 0, roads), 0, 3, 1, pairs(3))

    def test_no_pair(self):
        for n, k in ((0, 0), (1, 0), (1, 1), (3, 0), (3, 2), (3, 3)):
            self.turned([0, 0], 0, n, k, [])

    def test_someone_in_no_pair(self):
        roads = [[0, 1], [0, 3], [1, 2], [1, 3], [2, 0], [2, 4], [3, 1], [3, 4], [4, 0], [4, 2]]
        for pair in ([0, 1], [0, 3], [1, 2], [2, 3]):
            self.turned(row_of(5, 0, roads), 0, 4, 1, [pair])

    def test_k_is_0(self):
        self.turned(row_of(4, 0, [[0, 1], [0, 2], [1, 3], [2, 0], [2, 3], [3, 1]]), 0, 2, 0, [[0, 1]])

    def test_k_is_above_n(self):
        for n, k, rows in ((0, 1, []), (0, GREATEST, []), (1, 2, []), (2, 3, [[0, 1]]), (3, GREATEST, pairs(3))):
            self.turned([1, 0], 0, n, k, rows)
            self.answer([2, 1, 0], 0, row_of(n, k, rows))

    def test_k_is_above_how_many_are_in_a_pair(self):
        roads = [[0, 2], [0, 4], [1, 2], [1, 4], [2, 3], [2, 4], [3, 0], [3, 1], [3, 5], [4, 2], [4, 5],
                 [5, 0], [5, 1], [5, 3]]
        for k in (2, 3, 4):
            self.turned(row_of(6, 0, roads), 0, 4, k, [[0, 1]])
            self.turned(row_of(6, 0, roads), 0, 4, k, [[1, 3]])


class TestTurn1(Turns):
    def test_rows(self):
        self.turned(row_of(9, 0, [[0, 1], [0, 5], [0, 8], [1, 2], [2, 3], [3, 4], [3, 8], [4, 5], [6, 7], [7, 8]]),
                    1, 3, 0, [[0, 1], [1, 0], [2, 0], [2, 1]])

    def test_no_point(self):
        self.turned([0, 0], 1, 0, 0, [])
        self.assertEqual(many(2, turn(1, [0, 0])[1:]), [1])

    def test_one_point(self):
        self.turned([3, 0, 2, 0, 1, 2, 1, 2], 1, 1, 0, [])
        self.assertEqual(many(2, turn(1, [1, 0])[1:]), [0])

    def test_two_points(self):
        self.turned(row_of(6, 0, [[0, 1], [1, 2], [3, 4], [4, 5]]), 1, 2, 0, [])
        self.turned(row_of(6, 0, [[0, 1], [1, 2], [2, 3], [3, 4], [4, 5]]), 1, 2, 0, [[0, 1]])
        self.turned(row_of(6, 0, [[0, 1], [0, 5], [1, 2], [3, 4], [4, 5]]), 1, 2, 0, [[1, 0]])
        ring = row_of(6, 0, [[0, 1], [0, 5], [1, 2], [2, 3], [3, 4], [4, 5]])
        self.turned(ring, 1, 2, 0, [[0, 1], [1, 0]])
        self.assertEqual(right(2, ring, [0, 1, 2, 3, 4, 5]), [1])
        self.assertEqual(right(2, ring, [0, 5, 4, 3, 2, 1]), [1])


class TestTurn2(Turns):
    def test_rows(self):
        self.turned([3, 3, 3, 0, 1, 2, 3, 0, 2, 1, 3, 1, 2, 2], 2, 3, 0, [[0, 2]])
        rows = [[0, 1, 1], [0, 2, 2], [0, 3, 1], [1, 2, 1], [1, 3, 2], [2, 3, 1]]
        self.turned(row_of(4, 4, rows), 2, 4, 0, [[0, 1], [0, 3], [1, 2], [2, 3]])

    def test_few_points(self):
        self.turned([0, 0], 2, 0, 0, [])
        self.turned([1, 1], 2, 1, 0, [])
        self.turned([2, 2, 3, 0, 1, 2], 2, 2, 0, [])
        self.turned([2, 2, 3, 0, 1, 1], 2, 2, 0, [[0, 1]])

    def test_no_road_and_all_roads(self):
        for n in range(7):
            self.turned(row_of(n, n, long_roads(n, 2)), 2, n, 0, [])
            self.turned(row_of(n, n, long_roads(n, 1)), 2, n, 0, pairs(n))


class TestTurn3(Turns):
    def test_rows(self):
        self.turned([3, 0, 2, 0, 1, 2, 1, 0, 2, 1, 2, 2, 2, 1], 3, 3, 0, [[0, 1], [1, 2]])
        self.turned([4, 0, 2, 0, 3, 2, 1, 2, 2, 2, 1, 2, 3, 0], 3, 4, 0, [[0, 3], [1, 2]])
        self.turned([2, 0, 2, 0, 1, 2, 1, 0], 3, 2, 0, [[0, 1]])

    def test_no_road_and_all_roads(self):
        for n in range(7):
            self.turned([n, 0], 3, n, 0, [])
            self.turned(row_of(n, 0, one_way_roads(n)), 3, n, 0, pairs(n))


class TestTurn4(Turns):
    def test_no_point(self):
        self.turned([0, 0], 4, 0, 0, [])

    def test_one_point(self):
        self.turned([1, 0, 1, 0, 1, 0, 0], 4, 1, 0, [])
        self.assertEqual(many(4, turn(4, [1, 0])[1:]), [0])

    def test_two_points(self):
        wishes = [[0], [0, 2], [1, 3], [4, 6], [5, 7], [1, 5], [3, 7]]
        self.turned(row_of(4, 0, wishes), 4, 2, 0, [[0, 1], [1, 0]])
        self.turned(row_of(4, 0, wishes + [[3, 5], [1, 7]]), 4, 2, 0, [[0, 1]])
        self.turned(row_of(4, 0, wishes + [[1, 7], [3, 5]]), 4, 2, 0, [[1, 0]])
        # a wish that is told twice stands twice
        self.turned(row_of(4, 0, wishes + [[1, 7], [3, 5], [3, 5], [1, 7]]), 4, 2, 0, [])
        self.assertEqual(first(4, turn(4, row_of(2, 0, [[0, 1], [1, 0]]))[1:]), [4, 1, 0, 0, 1])

    def test_three_points(self):
        wishes = [[0],
                  [0, 2, 4], [1, 3], [1, 5], [3, 5],
                  [6, 8, 10], [7, 9], [7, 11], [9, 11],
                  [12, 14, 16], [13, 15], [13, 17], [15, 17],
                  [1, 7], [1, 13], [7, 13], [3, 9], [3, 15], [9, 15], [5, 11], [5, 17], [11, 17]]
        self.turned(row_of(9, 0, wishes), 4, 3, 0, one_way_roads(3))
        # no road from 0 to 2, from 1 to 0, from 2 to 1
        lacking = [[1, 11], [3, 7], [5, 9], [7, 17], [9, 13], [11, 15], [5, 13], [1, 15], [3, 17]]
        self.turned(row_of(9, 0, wishes + lacking), 4, 3, 0, [[0, 1], [1, 2], [2, 0]])
        self.assertEqual(first(4, row_of(9, 0, wishes + lacking)), [9, 1, 0, 0, 0, 1, 0, 0, 0, 1])
        self.assertEqual(many(4, row_of(9, 0, wishes + lacking)), [1])


class TestWhatHolds(Turns):
    def test_small_guards(self):
        for n in range(4):
            for puzzle in all_puzzles(0, n):
                self.holds(0, *puzzle)

    def test_all_small_trips(self):
        for n in range(4):
            for t in range(1, 5):
                for puzzle in all_puzzles(KIND_FROM[t], n):
                    self.holds(t, *puzzle)

    def test_drawn_puzzles(self):
        source = random.Random(71)
        seen = {(t, some): False for t in range(5) for some in (False, True)}
        for t in range(5):
            for n in (4, 4, 4, 4, 4, 5, 5):
                for again in range(4):
                    n, k, rows = drawn_puzzle(source, KIND_FROM[t], 4 if t == 4 else n)
                    # more pairs make the search long
                    rows = rows[:4] if t == 0 else rows
                    seen[(t, self.holds(t, n, k, rows) > 0)] = True
        self.assertTrue(all(seen.values()), seen)

    def test_many_by_the_program_itself(self):
        source = random.Random(40)
        for t, most in ((2, 5), (3, 5), (4, 3)):
            for n in range(most + 1):
                for again in range(6):
                    p = row_of(*drawn_puzzle(source, KIND_FROM[t], n))
                    turned = turn(t, p)[1:]
                    self.assertEqual(many(KIND_TO[t], turned), many(KIND_FROM[t], p))
                    self.assertEqual(first(KIND_TO[t], turned) == [-6], first(KIND_FROM[t], p) == [-6])


class TestRefusals(Turns):
    def test_refused(self):
        for number, t, p in refused_turns():
            self.refused(number, t, p)

    def test_of_another_kind(self):
        self.refused(-22, 0, row_of(2, 0, [[0, 1], [1, 0]]))
        self.answer([20, 6, 0, 2, 0, 1, 2, 0, 5, 2, 1, 2, 2, 2, 3, 2, 3, 4, 2, 4, 5], 1, row_of(2, 0, [[0, 1], [1, 0]]))

    def test_edges_of_the_work(self):
        for t in range(5):
            for n, rows in edges_of_work(t)[0]:
                wanted = row_of(*told_turned(t, n, 0, rows))
                self.answer([len(wanted)] + wanted, t, row_of(n, 0, rows))
            for n, rows in edges_of_work(t)[1]:
                self.refused(-28, t, row_of(n, 0, rows))

    def test_k_is_not_of_the_size(self):
        self.answer([2, 1, 0], 0, row_of(200, GREATEST, []))
        self.answer([2, 0, 0], 0, row_of(200, 200, []))
        self.refused(-28, 0, row_of(201, GREATEST, []))


class TestHandedIn(Turns):
    PUZZLES = ([], [1], [0, 0], [1, 0], [2000, 0], row_of(4, 2, [[0, 1], [1, 2]]), row_of(3, 0, one_way_roads(3)),
               row_of(4, 0, pairs(4)), row_of(3, 3, long_roads(3, 1)), [3, 7], [2, 0, 2, 1])

    def test_nothing_is_changed(self):
        for t in range(6):
            for puzzle in self.PUZZLES:
                p = list(puzzle)
                answered = turn(t, p)
                self.assertEqual(p, puzzle)
                self.assertEqual(turn(t, Kept(puzzle)), answered)

    def test_each_time_is_the_first(self):
        for again in range(3):
            self.answer([2, 0, 0], 0, [3, 2])
            turn(0, [3, 2]).append(again)
            self.answer([7, 1, 0, 1, 0, 1, 0, 0], 4, [1, 0])
            self.answer([8, 2, 0, 2, 0, 1, 2, 1, 0], 3, row_of(2, 0, [[0, 1]]))


if __name__ == "__main__":
    unittest.main()
