"""What the tests share: rows laid out, puzzles drawn up, and right told a second time, in another way."""

from itertools import permutations, product

GREATEST = 18446744073709551615
GREATEST_SMALL = 4294967295


class Kept(list):
    """A list that fails the test as soon as it's changed."""

    def refuse(self, *handed, **named):
        raise AssertionError("what was handed in is changed")

    append = extend = insert = pop = remove = clear = sort = reverse = refuse
    __setitem__ = __delitem__ = __iadd__ = __imul__ = refuse


def row_of(n, k, rows):
    """The row of a puzzle: n, k, then each row behind how many numbers it has."""
    laid = [n, k]
    for row in rows:
        laid += [len(row)] + list(row)
    return laid


def one_way_roads(n):
    return [[a, b] for a in range(n) for b in range(n) if a != b]


def pairs(n):
    return [[a, b] for a, b in one_way_roads(n) if a < b]


def long_roads(n, length):
    return [pair + [length] for pair in pairs(n)]


def broken_rows():
    """Lists that are no puzzle's row."""
    return [[], [0], [2], [GREATEST], [2, 0, 1], [2, 0, 2, 0], [2, 0, 3, 0, 1], [2, 0, 2, 0, 1, 2, 0], [2, 0, GREATEST]]


def broken_puzzles(c, n=3):
    """Rows of puzzles that aren't of kind c, whatever n of 3 and above is."""
    pair_lists = [[[0, 2], [0, 1]], [[1, 2], [0, 1]], [[1, 2], [0, 2]], [[0, 1], [0, 1]], [[0, 1], [0, 2], [0, 1]]]
    wrong_pairs = [[[1, 0]], [[1, 1]], [[0, n]], [[n, n + 1]], [[0, 1], [1, n]], [[0, GREATEST]]]
    wrong_lengths = [[[]], [[0]], [[0, 1, 2]], [[0, 1], [0]], [[0, 1], []], [[0, 1], [0, 2, 2]]]
    if c == 1:
        wrong_pairs = [[[1, 0], [0, 1]], [[1, 1]], [[0, n]], [[n, 0]], [[0, 1], [n, 1]], [[GREATEST, 0]],
                       [[0, GREATEST]]]
    every = pair_lists + wrong_pairs + wrong_lengths
    if c == 3:
        every = [[row + [1] for row in rows] for rows in every] + [[[0, 1, 1], [0, 1, 2]], [[0, 1, 2], [0, 1, 1]]]
    if c == 4:
        every = [[[2, 0]], [[0, 0]], [[0, 1]], [[1, 0]], [[0, 4, 2]], [[0], [3, 2]], [[2 * n]], [[0, 2 * n + 1]]]
    broken = [row_of(n, 0, rows) for rows in every if all(x <= GREATEST for row in rows for x in row)]
    if c in (1, 2, 4):
        broken += [row_of(n, k, []) for k in (1, n, GREATEST)]
    return broken


def told_right(c, n, k, rows, s):
    """What the document calls right, straight from its words."""
    s = tuple(s)
    if c in (0, 4):
        if len(s) != n or any(x not in (0, 1) for x in s):
            return False
    if c == 0:
        chosen = {i for i in range(n) if s[i] == 1}
        return len(chosen) == k and all(chosen & set(pair) for pair in rows)
    if c == 4:
        met = {2 * v if s[v] == 1 else 2 * v + 1 for v in range(n)}
        return all(met & set(wish) for wish in rows)
    if s not in told_trips(n):
        return False
    steps = list(zip(s, s[1:] + s[:1]))
    if c == 1:
        return all([a, b] in rows for a, b in steps)
    if c == 2:
        return all(sorted(step) in rows for step in steps)
    used = [[row[2] for row in rows if row[:2] == sorted(step)] for step in steps]
    return all(used) and sum(lengths[0] for lengths in used) <= k


def told_trips(n):
    if n == 0:
        return [()]
    return [(0,) + others for others in permutations(range(1, n))]


def told_solutions(c, n, k, rows):
    """All right solutions, by trying every list in order."""
    numbers = range(2) if c in (0, 4) else range(n)
    return [list(s) for s in product(numbers, repeat=n) if told_right(c, n, k, rows, s)]


def drawn_puzzle(source, c, n):
    """A puzzle of kind c with n drawn from the given random source."""
    if c == 4:
        return n, 0, [drawn_wish(source, n) for _ in range(source.randrange(7))]
    share = source.choice((30, 60, 90))
    places = [[a, b] for a in range(n) for b in range(n) if a < b or (c == 1 and a > b)]
    rows = [pair for pair in places if source.randrange(100) < share]
    if c == 3:
        rows = [pair + [source.randrange(4)] for pair in rows]
    k = {0: source.randrange(n + 2), 1: 0, 2: 0, 3: source.randrange(3 * n + 1)}[c]
    return n, k, rows


def drawn_wish(source, n):
    flags = [v for v in range(n) if source.randrange(2) == 1]
    return [2 * v + source.randrange(2) for v in flags]
