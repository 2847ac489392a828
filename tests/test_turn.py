"""turn: the turned rows number by number, what holds of them, the corners, and the refusals."""

import random
import unittest
from itertools import combinations

from roundtripsdesk.puzzles import first, many, right, turn
from tests.helper import (GREATEST, GREATEST_SMALL, Kept, broken_puzzles, broken_rows, drawn_puzzle, long_roads,
                          one_way_roads, pairs, row_of, told_solutions)

KIND_FROM = (0, 1, 2, 2, 1)
KIND_TO = (1, 2, 3, 1, 4)


def told_turned(t, n, k, rows):
    """The turned puzzle's n, k and rows, straight from the document's words."""
    if t == 0:
        return told_guards(n, k, rows)
    if t == 1:
        roads = [{3 * v, 3 * v + 1} for v in range(n)] + [{3 * v + 1, 3 * v + 2} for v in range(n)]
        roads += [{3 * a + 2, 3 * b} for a, b in rows]
        return 3 * n, 0, sorted(sorted(road) for road in roads)
    if t == 2:
        return n, n, [[a, b, 1 if [a, b] in rows else 2] for a, b in combinations(range(n), 2)]
    if t == 3:
        return n, 0, sorted(rows + [[b, a] for a, b in rows])
    return n * n, 0, told_wishes(n, rows)


def told_guards(n, k, rows):
    if k > n:
        return 1, 0, []
    own = {v: [pair for pair in rows if v in pair] for v in range(n)}
    paired = [v for v in range(n) if own[v]]
    gates = [("gate", i) for i in range(min(k, len(paired)))]
    points = gates + [(way, v, tuple(pair)) for v in paired for pair in own[v] for way in ("in", "out")]
    roads = []
    for v in paired:
        stops = [tuple(pair) for pair in own[v]]
        roads += [(gate, ("in", v, stops[0])) for gate in gates]
        roads += [(("out", v, stops[-1]), gate) for gate in gates]
        roads += [(("in", v, stop), ("out", v, stop)) for stop in stops]
        roads += [((way, v, stop), (way, sum(stop) - v, stop)) for stop in stops for way in ("in", "out")]
        roads += [(("out", v, stop), ("in", v, later)) for stop, later in zip(stops, stops[1:])]
    return len(points), 0, sorted([points.index(a), points.index(b)] for a, b in roads)


def told_wishes(n, rows):
    if n == 0:
        return []
    flags = [(place, v) for place in range(n) for v in range(n)]
    number = {flag: i for i, flag in enumerate(flags)}

    def downs(*both):
        return sorted(2 * number[flag] + 1 for flag in both)

    wishes = [[0]]
    for place in range(n):
        wishes.append([2 * number[flag] for flag in flags if flag[0] == place])
        wishes += [downs((place, v), (place, w)) for v, w in combinations(range(n), 2)]
    wishes += [downs((i, v), (j, v)) for v in range(n) for i, j in combinations(range(n), 2)]
    for place in range(n):
        later = place + 1 if place + 1 < n else 0
        wishes += [downs((place, u), (later, w)) for u, w in one_way_roads(n) if [u, w] not in rows]
    return wishes + ([[]] if n == 1 else [])


def puzzle_of(p):
    """The n, k and rows that a puzzle's row is laid out of."""
    rows, rest = [], p[2:]
    while rest:
        rows.append(rest[1:rest[0] + 1])
        rest = rest[rest[0] + 1:]
    return p[0], p[1], rows


def is_of_kind(c, n, k, rows):
    """What the document asks of a puzzle of kind c, straight from its words."""
    if c == 4:
        flags = [[saying // 2 for saying in wish] for wish in rows]
        return k == 0 and all(row == sorted(set(row)) and all(v < n for v in row) for row in flags)
    ends = [row[:2] for row in rows]
    if ends != [list(pair) for pair in sorted({tuple(pair) for pair in ends})]:
        return False
    if any(len(row) != (3 if c == 3 else 2) or max(row[:2]) >= n or row[0] == row[1] for row in rows):
        return False
    return (k == 0 or c in (0, 3)) and (c == 1 or all(a < b for a, b in ends))


def searched(c, n, k, rows):
    """How many right solutions there are, by a search that leaves off where no more can come of it."""
    if c == 4:
        return searched_wishes(n, rows)
    lengths = {}
    for row in rows:
        length = row[2] if c == 3 else 0
        lengths[(row[0], row[1])] = length
        if c != 1:
            lengths[(row[1], row[0])] = length
    if n == 0:
        return 1
    found, begun = 0, [([0], 0)]
    while begun:
        trip, gone = begun.pop()
        if len(trip) == n:
            home = (trip[-1], 0)
            found += home in lengths and gone + lengths[home] <= k
        for v in range(n):
            step = (trip[-1], v)
            if v not in trip and step in lengths and gone + lengths[step] <= k:
                begun.append((trip + [v], gone + lengths[step]))
    return found


def searched_wishes(n, wishes):
    begun = [[]] if [] not in wishes else []
    for flag in range(n):
        due = [wish for wish in wishes if wish and wish[-1] // 2 == flag]
        longer = [s + [number] for s in begun for number in (0, 1)]
        begun = [s for s in longer if all(any(s[x // 2] == 1 - x % 2 for x in wish) for wish in due)]
    return len(begun)


class Turns(unittest.TestCase):
    def answer(self, wanted, t, p):
        given = turn(t, p)
        self.assertIs(type(given), list)
        # not by assertEqual: it takes minutes to show how two long lists differ
        self.assertTrue(given == wanted, (t, p, given[:100], wanted[:100]))
        self.assertEqual({type(number) for number in given}, {int})

    def turned(self, wanted, t, n, k, rows):
        """The row written here, the one told by the words, and the answer are one."""
        self.assertEqual(row_of(*told_turned(t, n, k, rows)), wanted)
        self.answer([len(wanted)] + wanted, t, row_of(n, k, rows))

    def refused(self, number, t, p):
        self.answer([number], t, p)

    def holds(self, t, n, k, rows):
        """The turned puzzle is the told one, of its kind, and has as many right solutions as promised."""
        p = row_of(n, k, rows)
        turned = turn(t, p)[1:]
        self.answer([len(turned)] + row_of(*told_turned(t, n, k, rows)), t, p)
        c, later = KIND_TO[t], puzzle_of(turned)
        self.assertTrue(is_of_kind(c, *later), (t, p))
        self.assertIn(right(c, turned, []), ([0], [1], [-28]))
        here, then = len(told_solutions(KIND_FROM[t], n, k, rows)), searched(c, *later)
        self.assertEqual(here > 0, then > 0, (t, p))
        if t == 1 and n > 0:
            self.assertEqual(then, 2 * here)
        elif t != 0:
            self.assertEqual(then, here)
        return here


class TestTurn0(Turns):
    def test_one_pair(self):
        # gate 0; 0 comes in at 1, goes out at 2; 1 comes in at 3, goes out at 4
        self.turned([5, 0, 2, 0, 1, 2, 0, 3, 2, 1, 2, 2, 1, 3, 2, 2, 0, 2, 2, 4, 2, 3, 1, 2, 3, 4, 2, 4, 0, 2, 4, 2],
                    0, 2, 1, [[0, 1]])
        self.assertEqual(first(1, turn(0, row_of(2, 1, [[0, 1]]))[1:]), [5, 0, 1, 3, 4, 2])
        self.assertEqual(many(1, turn(0, row_of(2, 1, [[0, 1]]))[1:]), [2])

    def test_two_pairs(self):
        # gate 0; 0's pair: 1, 2; 1's pairs: 3, 4 and 5, 6; 2's pair: 7, 8
        roads = [[0, 1], [0, 3], [0, 7], [1, 2], [1, 3], [2, 0], [2, 4], [3, 1], [3, 4], [4, 2], [4, 5],
                 [5, 6], [5, 7], [6, 0], [6, 8], [7, 5], [7, 8], [8, 0], [8, 6]]
        self.turned(row_of(9, 0, roads), 0, 3, 1, [[0, 1], [1, 2]])
        self.assertEqual(right(1, row_of(9, 0, roads), [0, 3, 1, 2, 4, 5, 7, 8, 6]), [1])

    def test_order_of_someone_s_pairs(self):
        # 1's pair with 0 stands before its pair with 2, though 0's pair with 2 stands between them
        roads = [[0, 1], [0, 5], [0, 9], [1, 2], [1, 5], [2, 3], [2, 6], [3, 4], [3, 9], [4, 0], [4, 10],
                 [5, 1], [5, 6], [6, 2], [6, 7], [7, 8], [7, 11], [8, 0], [8, 12], [9, 3], [9, 10], [10, 4],
                 [10, 11], [11, 7], [11, 12], [12, 0], [12, 8]]
        self.turned(row_of(13, 0, roads), 0, 3, 1, pairs(3))

    def test_no_pair(self):
        for n, k in ((0, 0), (1, 0), (1, 1), (3, 0), (3, 2), (3, 3)):
            self.turned([0, 0], 0, n, k, [])

    def test_someone_in_no_pair(self):
        roads = [[0, 1], [0, 3], [1, 2], [1, 3], [2, 0], [2, 4], [3, 1], [3, 4], [4, 0], [4, 2]]
        for pair in ([0, 1], [0, 3], [1, 2], [2, 3]):
            self.turned(row_of(5, 0, roads), 0, 4, 1, [pair])

    def test_k_is_0(self):
        self.turned(row_of(4, 0, [[0, 1], [0, 2], [1, 3], [2, 0], [2, 3], [3, 1]]), 0, 2, 0, [[0, 1]])

    def test_k_is_above_n(self):
        for n, k, rows in ((0, 1, []), (0, GREATEST, []), (1, 2, []), (2, 3, [[0, 1]]), (3, GREATEST, pairs(3))):
            self.turned([1, 0], 0, n, k, rows)
            self.answer([2, 1, 0], 0, row_of(n, k, rows))

    def test_k_is_above_how_many_are_in_a_pair(self):
        roads = [[0, 2], [0, 4], [1, 2], [1, 4], [2, 3], [2, 4], [3, 0], [3, 1], [3, 5], [4, 2], [4, 5],
                 [5, 0], [5, 1], [5, 3]]
        for k in (2, 3, 4):
            self.turned(row_of(6, 0, roads), 0, 4, k, [[0, 1]])
            self.turned(row_of(6, 0, roads), 0, 4, k, [[1, 3]])


class TestTurn1(Turns):
    def test_rows(self):
        self.turned(row_of(9, 0, [[0, 1], [0, 5], [0, 8], [1, 2], [2, 3], [3, 4], [3, 8], [4, 5], [6, 7], [7, 8]]),
                    1, 3, 0, [[0, 1], [1, 0], [2, 0], [2, 1]])

    def test_no_point(self):
        self.turned([0, 0], 1, 0, 0, [])
        self.assertEqual(many(2, turn(1, [0, 0])[1:]), [1])

    def test_one_point(self):
        self.turned([3, 0, 2, 0, 1, 2, 1, 2], 1, 1, 0, [])
        self.assertEqual(many(2, turn(1, [1, 0])[1:]), [0])

    def test_two_points(self):
        self.turned(row_of(6, 0, [[0, 1], [1, 2], [3, 4], [4, 5]]), 1, 2, 0, [])
        self.turned(row_of(6, 0, [[0, 1], [1, 2], [2, 3], [3, 4], [4, 5]]), 1, 2, 0, [[0, 1]])
        self.turned(row_of(6, 0, [[0, 1], [0, 5], [1, 2], [3, 4], [4, 5]]), 1, 2, 0, [[1, 0]])
        ring = row_of(6, 0, [[0, 1], [0, 5], [1, 2], [2, 3], [3, 4], [4, 5]])
        self.turned(ring, 1, 2, 0, [[0, 1], [1, 0]])
        self.assertEqual(right(2, ring, [0, 1, 2, 3, 4, 5]), [1])
        self.assertEqual(right(2, ring, [0, 5, 4, 3, 2, 1]), [1])


class TestTurn2(Turns):
    def test_rows(self):
        self.turned([3, 3, 3, 0, 1, 2, 3, 0, 2, 1, 3, 1, 2, 2], 2, 3, 0, [[0, 2]])
        rows = [[0, 1, 1], [0, 2, 2], [0, 3, 1], [1, 2, 1], [1, 3, 2], [2, 3, 1]]
        self.turned(row_of(4, 4, rows), 2, 4, 0, [[0, 1], [0, 3], [1, 2], [2, 3]])

    def test_few_points(self):
        self.turned([0, 0], 2, 0, 0, [])
        self.turned([1, 1], 2, 1, 0, [])
        self.turned([2, 2, 3, 0, 1, 2], 2, 2, 0, [])
        self.turned([2, 2, 3, 0, 1, 1], 2, 2, 0, [[0, 1]])

    def test_no_road_and_all_roads(self):
        for n in range(7):
            self.turned(row_of(n, n, long_roads(n, 2)), 2, n, 0, [])
            self.turned(row_of(n, n, long_roads(n, 1)), 2, n, 0, pairs(n))


class TestTurn3(Turns):
    def test_rows(self):
        self.turned([3, 0, 2, 0, 1, 2, 1, 0, 2, 1, 2, 2, 2, 1], 3, 3, 0, [[0, 1], [1, 2]])
        self.turned([4, 0, 2, 0, 3, 2, 1, 2, 2, 2, 1, 2, 3, 0], 3, 4, 0, [[0, 3], [1, 2]])
        self.turned([2, 0, 2, 0, 1, 2, 1, 0], 3, 2, 0, [[0, 1]])

    def test_no_road_and_all_roads(self):
        for n in range(7):
            self.turned([n, 0], 3, n, 0, [])
            self.turned(row_of(n, 0, one_way_roads(n)), 3, n, 0, pairs(n))


class TestTurn4(Turns):
    def test_no_point(self):
        self.turned([0, 0], 4, 0, 0, [])

    def test_one_point(self):
        self.turned([1, 0, 1, 0, 1, 0, 0], 4, 1, 0, [])
        self.assertEqual(many(4, turn(4, [1, 0])[1:]), [0])

    def test_two_points(self):
        wishes = [[0], [0, 2], [1, 3], [4, 6], [5, 7], [1, 5], [3, 7]]
        self.turned(row_of(4, 0, wishes), 4, 2, 0, [[0, 1], [1, 0]])
        self.turned(row_of(4, 0, wishes + [[3, 5], [1, 7]]), 4, 2, 0, [[0, 1]])
        self.turned(row_of(4, 0, wishes + [[1, 7], [3, 5]]), 4, 2, 0, [[1, 0]])
        # a wish that is told twice stands twice
        self.turned(row_of(4, 0, wishes + [[1, 7], [3, 5], [3, 5], [1, 7]]), 4, 2, 0, [])
        self.assertEqual(first(4, turn(4, row_of(2, 0, [[0, 1], [1, 0]]))[1:]), [4, 1, 0, 0, 1])

    def test_three_points(self):
        wishes = [[0],
                  [0, 2, 4], [1, 3], [1, 5], [3, 5],
                  [6, 8, 10], [7, 9], [7, 11], [9, 11],
                  [12, 14, 16], [13, 15], [13, 17], [15, 17],
                  [1, 7], [1, 13], [7, 13], [3, 9], [3, 15], [9, 15], [5, 11], [5, 17], [11, 17]]
        self.turned(row_of(9, 0, wishes), 4, 3, 0, one_way_roads(3))
        # no road from 0 to 2, from 1 to 0, from 2 to 1
        lacking = [[1, 11], [3, 7], [5, 9], [7, 17], [9, 13], [11, 15], [5, 13], [1, 15], [3, 17]]
        self.turned(row_of(9, 0, wishes + lacking), 4, 3, 0, [[0, 1], [1, 2], [2, 0]])
        self.assertEqual(first(4, row_of(9, 0, wishes + lacking)), [9, 1, 0, 0, 0, 1, 0, 0, 0, 1])
        self.assertEqual(many(4, row_of(9, 0, wishes + lacking)), [1])


class TestWhatHolds(Turns):
    def test_small_guards(self):
        for n in range(4):
            for share in range(2 ** len(pairs(n))):
                rows = [pair for i, pair in enumerate(pairs(n)) if share >> i & 1]
                for k in range(n + 2):
                    self.holds(0, n, k, rows)

    def test_all_small_trips(self):
        for n in range(4):
            for t, roads in ((1, one_way_roads(n)), (2, pairs(n)), (3, pairs(n)), (4, one_way_roads(n))):
                for share in range(2 ** len(roads)):
                    self.holds(t, n, 0, [road for i, road in enumerate(roads) if share >> i & 1])

    def test_drawn_puzzles(self):
        source = random.Random(71)
        seen = {(t, some): False for t in range(5) for some in (False, True)}
        for t in range(5):
            for n in (4, 4, 4, 4, 4, 5, 5):
                for again in range(4):
                    n, k, rows = drawn_puzzle(source, KIND_FROM[t], 4 if t == 4 else n)
                    # more pairs make the search long
                    rows = rows[:4] if t == 0 else rows
                    seen[(t, self.holds(t, n, k, rows) > 0)] = True
        self.assertTrue(all(seen.values()), seen)

    def test_many_by_the_program_itself(self):
        source = random.Random(40)
        for t, most in ((2, 5), (3, 5), (4, 3)):
            for n in range(most + 1):
                for again in range(6):
                    p = row_of(*drawn_puzzle(source, KIND_FROM[t], n))
                    turned = turn(t, p)[1:]
                    self.assertEqual(many(KIND_TO[t], turned), many(KIND_FROM[t], p))
                    self.assertEqual(first(KIND_TO[t], turned) == [-6], first(KIND_FROM[t], p) == [-6])


class TestRefusals(Turns):
    def test_t_is_no_turn(self):
        for t in (5, 6, GREATEST_SMALL):
            for p in ([], [0, 0], row_of(2, 0, [[0, 1]]), [GREATEST, 0]):
                self.refused(-22, t, p)

    def test_p_is_no_row(self):
        for t in range(5):
            for p in broken_rows():
                self.refused(-22, t, p)

    def test_not_of_the_kind(self):
        for t in range(5):
            for p in broken_puzzles(KIND_FROM[t]):
                self.refused(-22, t, p)

    def test_of_another_kind(self):
        self.refused(-22, 0, row_of(2, 0, [[0, 1], [1, 0]]))
        self.answer([20, 6, 0, 2, 0, 1, 2, 0, 5, 2, 1, 2, 2, 2, 3, 2, 3, 4, 2, 4, 5], 1, row_of(2, 0, [[0, 1], [1, 0]]))
        for t in (2, 3):
            self.refused(-22, t, row_of(2, 0, [[0, 1], [1, 0]]))
            self.refused(-22, t, row_of(2, 2, [[0, 1, 1]]))
        for t in range(1, 5):
            self.refused(-22, t, row_of(2, 1, [[0, 1]]))
        for t in range(5):
            self.refused(-22, t, row_of(3, 0, [[0, 1, 1]]))
            self.refused(-22, t, row_of(3, 0, [[0]]))

    def test_edge_of_the_size(self):
        for t in range(4):
            for n, rows in ((200, []), (197, [[0, 1]]), (194, [[0, 1], [5, 193]]), (50, pairs(11)[:50])):
                wanted = row_of(*told_turned(t, n, 0, rows))
                self.answer([len(wanted)] + wanted, t, row_of(n, 0, rows))
                self.refused(-28, t, row_of(n + 1, 0, rows))
        # k isn't of the size
        self.answer([2, 1, 0], 0, row_of(200, GREATEST, []))
        self.answer([2, 0, 0], 0, row_of(200, 200, []))
        self.refused(-28, 0, row_of(201, GREATEST, []))

    def test_edge_of_turn_4(self):
        # n times n times n, and the size times the size besides: 39,906, 39,996, 39,657, 38,967, 37,026
        for n, many_roads in ((33, 10), (30, 28), (32, 17), (11, 61), (33, 0)):
            rows = one_way_roads(n)[:many_roads]
            wanted = row_of(*told_turned(4, n, 0, rows))
            self.answer([len(wanted)] + wanted, 4, row_of(n, 0, rows))
        # 40,293, 40,014, 40,164, 40,140
        for n, many_roads in ((33, 11), (29, 32), (32, 18), (11, 62)):
            self.refused(-28, 4, row_of(n, 0, one_way_roads(n)[:many_roads]))
        for n in (34, 35, 60, 200, 201):
            self.refused(-28, 4, row_of(n, 0, []))

    def test_great_numbers(self):
        for t in range(5):
            for n in (201, 1001, GREATEST_SMALL, GREATEST):
                self.refused(-28, t, row_of(n, 0, []))
                self.refused(-28, t, row_of(n, 0, [[0, 1]]))
            self.refused(-28, t, row_of(GREATEST, 0, [[GREATEST - 2, GREATEST - 1]]))
            self.refused(-22, t, row_of(GREATEST, 0, [[GREATEST - 1, GREATEST]]))
            self.refused(-22, t, [GREATEST] * 400)
        self.refused(-28, 0, row_of(GREATEST, GREATEST, []))
        self.refused(-28, 0, row_of(GREATEST - 1, GREATEST, []))

    def test_22_comes_before_28(self):
        for n in (201, 1001, GREATEST):
            self.refused(-22, 5, row_of(n, 0, []))
            for t in range(5):
                self.refused(-22, t, [n, 0, 1])
                for p in broken_puzzles(KIND_FROM[t], n):
                    self.refused(-22, t, p)


class TestHandedIn(Turns):
    PUZZLES = ([], [1], [0, 0], [1, 0], [2000, 0], row_of(4, 2, [[0, 1], [1, 2]]), row_of(3, 0, one_way_roads(3)),
               row_of(4, 0, pairs(4)), row_of(3, 3, long_roads(3, 1)), [3, 7], [2, 0, 2, 1])

    def test_nothing_is_changed(self):
        for t in range(6):
            for puzzle in self.PUZZLES:
                p = list(puzzle)
                answered = turn(t, p)
                self.assertEqual(p, puzzle)
                self.assertEqual(turn(t, Kept(puzzle)), answered)

    def test_each_time_is_the_first(self):
        for again in range(3):
            self.answer([2, 0, 0], 0, [3, 2])
            turn(0, [3, 2]).append(again)
            self.answer([7, 1, 0, 1, 0, 1, 0, 0], 4, [1, 0])
            self.answer([8, 2, 0, 2, 0, 1, 2, 1, 0], 3, row_of(2, 0, [[0, 1]]))


if __name__ == "__main__":
    unittest.main()
