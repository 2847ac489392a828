"""What holds over the whole program: point 5 of all small puzzles, and what every call keeps to."""

import random
import unittest
from itertools import product

from roundtripsdesk.puzzles import first, home, many, right, there, turn
from tests.helper import (GREATEST, GREATEST_SMALL, KIND_FROM, KIND_TO, Kept, all_puzzles, drawn_puzzle, puzzle_of,
                          row_of, searched)


def right_ones(c, p):
    """All right solutions, as right tells them one by one."""
    numbers = range(2) if c in (0, 4) else range(p[0])
    return [list(s) for s in product(numbers, repeat=p[0]) if right(c, p, list(s)) == [1]]


class TestPoint5(unittest.TestCase):
    def gone(self, t, p, s):
        answered = there(t, p, s)
        self.assertEqual(answered[0], len(answered) - 1)
        return answered[1:]

    def come(self, t, p, s):
        answered = home(t, p, s)
        self.assertEqual(answered[0], len(answered) - 1)
        return answered[1:]

    def holds(self, t, p):
        c, later = KIND_FROM[t], turn(t, p)[1:]
        here, then = right_ones(c, p), searched(KIND_TO[t], *puzzle_of(later))
        self.assertEqual(many(c, p), [len(here)])
        self.assertEqual(first(c, p), [p[0]] + here[0] if here else [-6])
        self.assertEqual(len(here) > 0, len(then) > 0)
        for s in then:
            self.assertEqual(right(KIND_TO[t], later, s), [1])
            self.assertIn(self.come(t, p, s), here)
        for s in here:
            self.assertIn(self.gone(t, p, s), then)
        if t == 0:
            self.guards_come_home(p, here)
        else:
            self.trips_come_home(t, p, here, then)

    def guards_come_home(self, p, here):
        paired = {v for pair in puzzle_of(p)[2] for v in pair}
        for s in here:
            if {v for v in range(p[0]) if s[v] == 1} <= paired:
                self.assertEqual(self.come(0, p, self.gone(0, p, s)), s)

    def trips_come_home(self, t, p, here, then):
        twice = 2 if t == 1 and p[0] > 0 else 1
        came = [self.come(t, p, s) for s in then]
        self.assertEqual(len(then), twice * len(here))
        for s in here:
            self.assertEqual(self.come(t, p, self.gone(t, p, s)), s)
            self.assertEqual(came.count(s), twice)

    def test_guards(self):
        for n in range(5):
            for puzzle in all_puzzles(0, n):
                # with more pairs the search takes long
                if len(puzzle[2]) < 5:
                    self.holds(0, row_of(*puzzle))

    def test_one_way_roads(self):
        for t in (1, 4):
            for n in range(4):
                for puzzle in all_puzzles(1, n):
                    self.holds(t, row_of(*puzzle))

    def test_roads(self):
        for t in (2, 3):
            for n in range(5):
                for puzzle in all_puzzles(2, n):
                    self.holds(t, row_of(*puzzle))

    def test_several_turns_behind_one_another(self):
        for puzzle in ((0, 0, []), (2, 1, [[0, 1]]), (3, 1, [[0, 1], [1, 2]]), (3, 2, [[0, 1], [1, 2]])):
            for turns in ((0, 1, 2), (0, 1, 3), (0, 4)):
                self.whole_way(turns, row_of(*puzzle))
        self.whole_way((0, 1, 3, 4), row_of(2, 1, [[0, 1]]))

    def whole_way(self, turns, p):
        for s in right_ones(0, p):
            puzzles, solutions = [p], [s]
            for t in turns:
                solutions.append(self.gone(t, puzzles[-1], solutions[-1]))
                puzzles.append(turn(t, puzzles[-1])[1:])
            for t in reversed(turns):
                puzzles.pop()
                come = self.come(t, puzzles[-1], solutions.pop())
                self.assertEqual(come, solutions[-1])


def drawn_calls(source):
    """Calls with puzzles of each kind, with s right or not, and with lists that are nothing of the kind."""
    calls = []
    for c in range(5):
        for n in (0, 1, 2, 2, 3, 3, 4):
            p = row_of(*drawn_puzzle(source, c, n))
            calls += [(many, (c, p)), (first, (c, p))]
            for s in right_ones(c, p)[:2] + [drawn_list(source, n, max(n, 2)), drawn_list(source, n + 1, n + 1)]:
                calls += [(right, (c, p, s))] + [(way, (t, p, s)) for way in (there, home) for t in range(5)]
            for t in range(5):
                calls.append((turn, (t, p)))
                if KIND_FROM[t] == c:
                    calls += [(home, (t, p, s)) for s in searched(KIND_TO[t], *puzzle_of(turn(t, p)[1:]))[:2]]
    calls += [(call, (c, [n, 0])) for call in (many, first, turn) for c in range(5) for n in (201, 1001, GREATEST)]
    calls += [(call, (c, [n, 0], [])) for call in (right, there, home) for c in range(5) for n in (201, 1001, GREATEST)]
    for again in range(200):
        p = drawn_list(source, source.randrange(9), source.choice((2, 3, 4, GREATEST + 1)))
        s = drawn_list(source, source.randrange(4), source.choice((2, 3, GREATEST_SMALL + 1)))
        number = source.choice((0, 1, 2, 3, 4, 5, GREATEST_SMALL))
        calls += [(many, (number, p)), (first, (number, p)), (turn, (number, p))]
        calls += [(right, (number, p, s)), (there, (number, p, s)), (home, (number, p, s))]
    return calls


def drawn_list(source, length, below):
    return [source.randrange(below) for _ in range(length)]


def kept(handed):
    return [Kept(value) if isinstance(value, list) else value for value in handed]


class TestEveryCall(unittest.TestCase):
    REFUSALS = {right: {-22, -28}, many: {-22, -28}, first: {-22, -28, -6}, turn: {-22, -28},
                there: {-22, -28, -71}, home: {-22, -28, -71}}

    def setUp(self):
        self.calls = drawn_calls(random.Random(5))

    def test_one_list_of_whole_numbers(self):
        seen = {call: set() for call in self.REFUSALS}
        for call, handed in self.calls:
            answered = call(*handed)
            self.assertIs(type(answered), list)
            self.assertEqual({type(number) for number in answered}, {int})
            seen[call].add(min(answered[0], 0))
            if answered[0] < 0 or call in (right, many):
                self.assertEqual(len(answered), 1)
            else:
                self.assertEqual(answered[0], len(answered) - 1)
            self.assertTrue(all(number >= 0 for number in answered[1:]))
        for call, numbers in seen.items():
            self.assertEqual(numbers, self.REFUSALS[call] | {0})

    def test_nothing_handed_in_is_changed(self):
        for call, handed in self.calls:
            before = repr(handed)
            answered = call(*handed)
            self.assertEqual(repr(handed), before)
            self.assertEqual(call(*kept(handed)), answered)
            # nor is it given back
            self.assertFalse(any(answered is value for value in handed))

    def test_each_time_is_the_first(self):
        answers = [call(*handed) for call, handed in self.calls]
        order = list(range(len(self.calls)))
        random.Random(7).shuffle(order)
        for i in order:
            call, handed = self.calls[i]
            answered = call(*handed)
            self.assertEqual(answered, answers[i])
            answered.append(-1)


if __name__ == "__main__":
    unittest.main()
