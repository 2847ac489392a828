"""What the tests share: rows laid out, puzzles drawn up, those that are refused, and right told a second time."""

import unittest
from itertools import islice, product

GREATEST = 18446744073709551615
GREATEST_SMALL = 4294967295

# The kinds that each turn goes from and comes to.
KIND_FROM = (0, 1, 2, 2, 1)
KIND_TO = (1, 2, 3, 1, 4)


class Kept(list):
    """A list that fails the test as soon as it's changed."""

    def refuse(self, *handed, **named):
        raise AssertionError("what was handed in is changed")

    append = extend = insert = pop = remove = clear = sort = reverse = refuse
    __setitem__ = __delitem__ = __iadd__ = __imul__ = refuse


class Way(unittest.TestCase):
    """What the tests of there and home share: call is the one or the other, told tells it by the document's words."""

    call = told = None

    def answer(self, wanted, t, p, s):
        given = self.call(t, p, s)
        self.assertIs(type(given), list)
        self.assertEqual(given, wanted, (t, p, s))
        self.assertEqual({type(number) for number in given}, {int})

    def answer_told(self, t, p, s):
        wanted = self.told(t, *puzzle_of(p), s)
        self.answer([len(wanted)] + wanted, t, p, s)

    def refused(self, number, t, p, s):
        self.answer([number], t, p, s)

    def refuses_puzzles(self):
        """The refusals of points 1 and 2 come first, whatever s is."""
        for number, t, p in refused_turns():
            for s in ([], [0], [0, 1], [0, 1, 2], [GREATEST_SMALL] * 2000):
                self.refused(number, t, p, s)

    def refuses_lengths(self, t, p, s):
        """Right is s, but none that's longer or shorter."""
        self.answer_told(t, p, s)
        for other in (s + [0], s + [len(s)], [0] + s, s + s, s + [0] * (2000 - len(s)), s[:-1], s[1:], s[:1], []):
            self.refused(-71, t, p, other)

    def refuses_numbers(self, t, p, s, least):
        """Right is s, but not with a number of the least that it can't have, or of the greatest."""
        self.answer_told(t, p, s)
        for i in range(len(s)):
            for number in (least, GREATEST_SMALL - 1, GREATEST_SMALL):
                self.refused(-71, t, p, s[:i] + [number] + s[i + 1:])

    def refuses_where_none_should_be(self):
        for t in range(5):
            for s in ([0], [1], [GREATEST_SMALL], [0] * 2000):
                self.refused(-71, t, [0, 0], s)

    def handed_in(self, right_ones):
        """Each t, p and s of the right ones, also with too short an s, and some where nothing is right."""
        handed = [(t, p, other) for t, p, s in right_ones for other in (s, s[:-1])]
        puzzles = ([], [0, 0], [1, 0], [3, 2], [2000, 0], [2, 0, 2, 0, 1])
        return handed + [(t, list(p), list(s)) for t in range(6) for p in puzzles for s in ([], [0, 1])]

    def changes_nothing(self, t, p, s):
        puzzle, solution = list(p), list(s)
        answered = self.call(t, p, s)
        self.answer(answered, t, Kept(puzzle), Kept(solution))
        answered.append(0)
        self.assertEqual((p, s), (puzzle, solution))
        self.answer(answered[:-1], t, p, s)


def row_of(n, k, rows):
    """The row of a puzzle: n, k, then each row behind how many numbers it has."""
    laid = [n, k]
    for row in rows:
        laid += [len(row)] + list(row)
    return laid


def puzzle_of(p):
    """The n, k and rows that a puzzle's row is laid out of."""
    numbers = iter(p[2:])
    return p[0], p[1], [list(islice(numbers, length)) for length in numbers]


def one_way_roads(n):
    return [[a, b] for a in range(n) for b in range(n) if a != b]


def pairs(n):
    return [[a, b] for a, b in one_way_roads(n) if a < b]


def one_way_ring(n):
    return sorted([v, (v + 1) % n] for v in range(n))


def ring(n):
    return sorted(sorted(road) for road in one_way_ring(n))


def long_roads(n, length):
    return [pair + [length] for pair in pairs(n)]


def broken_rows():
    """Lists that are no puzzle's row."""
    return [[], [0], [2], [GREATEST], [2, 0, 1], [2, 0, 2, 0], [2, 0, 3, 0, 1], [2, 0, 2, 0, 1, 2, 0], [2, 0, GREATEST]]


def broken_puzzles(c, n=3):
    """Rows of puzzles that aren't of kind c, whatever n of 3 and above is."""
    pair_lists = [[[0, 2], [0, 1]], [[1, 2], [0, 1]], [[1, 2], [0, 2]], [[0, 1], [0, 1]], [[0, 1], [0, 2], [0, 1]]]
    wrong_pairs = [[[1, 0]], [[1, 1]], [[0, n]], [[n, n + 1]], [[0, 1], [1, n]], [[0, GREATEST]]]
    wrong_lengths = [[[]], [[0]], [[0, 1, 2]], [[0, 1], [0]], [[0, 1], []], [[0, 1], [0, 2, 2]]]
    if c == 1:
        wrong_pairs = [[[1, 0], [0, 1]], [[1, 1]], [[0, n]], [[n, 0]], [[0, 1], [n, 1]], [[GREATEST, 0]],
                       [[0, GREATEST]]]
    every = pair_lists + wrong_pairs + wrong_lengths
    if c == 3:
        every = [[row + [1] for row in rows] for rows in every] + [[[0, 1, 1], [0, 1, 2]], [[0, 1, 2], [0, 1, 1]]]
    if c == 4:
        every = [[[2, 0]], [[0, 0]], [[0, 1]], [[1, 0]], [[0, 4, 2]], [[0], [3, 2]], [[2 * n]], [[0, 2 * n + 1]]]
    broken = [row_of(n, 0, rows) for rows in every if all(x <= GREATEST for row in rows for x in row)]
    if c in (1, 2, 4):
        broken += [row_of(n, k, []) for k in (1, n, GREATEST)]
    return broken


def edges_of_work(t):
    """The n and rows of puzzles whose work by turn t is just not too much, and of others where it just is."""
    if t == 4:
        # size times size, and n times n times n: 39,906, 39,996, 39,657, 38,967, 37,026; 40,293, 40,014, 40,164, 40,140
        enough, much = ((33, 10), (30, 28), (32, 17), (11, 61), (33, 0)), ((33, 11), (29, 32), (32, 18), (11, 62))
        enough, much = ([(n, one_way_roads(n)[:m]) for n, m in both] for both in (enough, much))
        return enough, much + [(34, [])]
    enough = [(200, []), (197, [[0, 1]]), (194, [[0, 1], [5, 193]]), (50, pairs(11)[:50])]
    return enough, [(n + 1, rows) for n, rows in enough]


def refused_turns():
    """Each refusal, t and p of puzzles that can't be turned by t; -22 also where the work is too much besides."""
    refused = [(-22, t, p) for t in (5, 6, GREATEST_SMALL)
               for p in ([], [0, 0], row_of(2, 0, [[0, 1]]), [201, 0], [GREATEST, 0])]
    for t in range(5):
        broken = broken_rows() + [[GREATEST] * 400, row_of(GREATEST, 0, [[GREATEST - 1, GREATEST]])]
        broken += [row_of(3, 0, rows) for rows in ([[0, 1, 1]], [[0]])]
        for n in (3, 201, 1001, GREATEST):
            broken += [[n, 0, 1]] + broken_puzzles(KIND_FROM[t], n)
        # a puzzle of another kind
        broken += [row_of(2, 0, [[0, 1], [1, 0]])] if t in (0, 2, 3) else []
        broken += [row_of(2, 1, [[0, 1]]), row_of(2, 2, [[0, 1, 1]])] if t > 0 else []
        much = [row_of(n, 0, rows) for n, rows in edges_of_work(t)[1]]
        much += [row_of(n, 0, rows) for n in (201, 1001, GREATEST_SMALL, GREATEST) for rows in ([], [[0, 1]])]
        much += [row_of(GREATEST, 0, [[GREATEST - 2, GREATEST - 1]])]
        refused += [(-22, t, p) for p in broken] + [(-28, t, p) for p in much]
    # k isn't of the size, but doesn't make it smaller either
    return refused + [(-28, 0, row_of(n, GREATEST, [])) for n in (201, GREATEST - 1, GREATEST)]


def told_right(c, n, k, rows, s):
    """What the document calls right, straight from its words."""
    s = tuple(s)
    if c in (0, 4):
        if len(s) != n or any(x not in (0, 1) for x in s):
            return False
    if c == 0:
        chosen = {i for i in range(n) if s[i] == 1}
        return len(chosen) == k and all(chosen & set(pair) for pair in rows)
    if c == 4:
        met = {2 * v if s[v] == 1 else 2 * v + 1 for v in range(n)}
        return all(met & set(wish) for wish in rows)
    if len(s) != n or set(s) != set(range(n)) or (n > 0 and s[0] != 0):
        return False
    steps = list(zip(s, s[1:] + s[:1]))
    if c == 1:
        return all([a, b] in rows for a, b in steps)
    if c == 2:
        return all(sorted(step) in rows for step in steps)
    used = [[row[2] for row in rows if row[:2] == sorted(step)] for step in steps]
    return all(used) and sum(lengths[0] for lengths in used) <= k


def told_solutions(c, n, k, rows):
    """All right solutions, by trying every list in order."""
    numbers = range(2) if c in (0, 4) else range(n)
    return [list(s) for s in product(numbers, repeat=n) if told_right(c, n, k, rows, s)]


def searched(c, n, k, rows):
    """All right solutions of kinds 1 to 4, by a search that leaves off where no more can come of it."""
    if c == 4:
        return searched_wishes(n, rows)
    if n == 0:
        return [[]]
    steps = [{} for v in range(n)]
    for row in rows:
        for a, b in (row[:2],) if c == 1 else (row[:2], row[1::-1]):
            steps[a][b] = row[2] if c == 3 else 0
    found, begun = [], [([0], 0)]
    while begun:
        trip, gone = begun.pop()
        for v, length in steps[trip[-1]].items():
            if gone + length > k:
                continue
            if v not in trip:
                begun.append((trip + [v], gone + length))
            elif v == 0 and len(trip) == n:
                found.append(trip)
    return found


def searched_wishes(n, wishes):
    begun = [[]] if [] not in wishes else []
    for flag in range(n):
        due = [wish for wish in wishes if wish and wish[-1] // 2 == flag]
        longer = [s + [number] for s in begun for number in (0, 1)]
        begun = [s for s in longer if all(any(s[x // 2] == 1 - x % 2 for x in wish) for wish in due)]
    return begun


def told_points(n, k, rows):
    """The points that turn 0 makes, each by its name, in order: ("gate", i), ("in", v, pair), ("out", v, pair)."""
    own = {v: [tuple(pair) for pair in rows if v in pair] for v in range(n)}
    gates = [("gate", i) for i in range(min(k, sum(map(bool, own.values()))))]
    return gates + [(way, v, pair) for v in own for pair in own[v] for way in ("in", "out")]


def all_puzzles(c, n):
    """The n, k and rows of all puzzles of kind c (0, 1 or 2) with that n; of guards k goes up to one above n."""
    places = one_way_roads(n) if c == 1 else pairs(n)
    parts = [[row for i, row in enumerate(places) if share >> i & 1] for share in range(2 ** len(places))]
    return [(n, k, rows) for rows in parts for k in range(n + 2 if c == 0 else 1)]


def drawn_puzzle(source, c, n):
    """A puzzle of kind c with n drawn from the given random source."""
    if c == 4:
        return n, 0, [drawn_wish(source, n) for _ in range(source.randrange(7))]
    share = source.choice((30, 60, 90))
    places = [[a, b] for a in range(n) for b in range(n) if a < b or (c == 1 and a > b)]
    rows = [pair for pair in places if source.randrange(100) < share]
    if c == 3:
        rows = [pair + [source.randrange(4)] for pair in rows]
    k = {0: source.randrange(n + 2), 1: 0, 2: 0, 3: source.randrange(3 * n + 1)}[c]
    return n, k, rows


def drawn_wish(source, n):
    flags = [v for v in range(n) if source.randrange(2) == 1]
    return [2 * v + source.randrange(2) for v in flags]
