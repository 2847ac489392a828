"""The calls on puzzles; each answers one list of whole numbers."""

from roundtripsdesk.solutions import come_home, gone_there
from roundtripsdesk.turns import ONE_WAY_TO_WISHES, turned

GUARDS = 0
ONE_WAY_TRIP = 1
SHORT_TRIP = 3
WISHES = 4

NO_REFUSAL = 0
NO_RIGHT_SOLUTION = -6
NOT_OF_THE_KIND = -22
TOO_GREAT = -28
NOT_RIGHT = -71

MOST_SIZE = 1000
MOST_NUMBERS = 12
MOST_LISTS = 4096
MOST_WORK = 40000

# The kind that each turn goes from, and the one that it comes to, turn 0 first.
KINDS_TURNED = (0, 1, 2, 2, 1)
KINDS_COME_TO = (1, 2, 3, 1, 4)


def right(c, p, s):
    """Answer 1 if s is a right solution of p, a puzzle of kind c, else 0."""
    refusal = refusal_of_puzzle(c, p)
    if refusal != NO_REFUSAL:
        return [refusal]
    if is_right(c, p[0], p[1], rows_of(p), s):
        return [1]
    return [0]


def many(c, p):
    """Answer how many right solutions p, a puzzle of kind c, has."""
    refusal = refusal_of_search(c, p)
    if refusal != NO_REFUSAL:
        return [refusal]
    return [len(right_solutions(c, p))]


def first(c, p):
    """Answer how many numbers the first right solution of p, a puzzle of kind c, has, then these."""
    refusal = refusal_of_search(c, p)
    if refusal != NO_REFUSAL:
        return [refusal]
    solutions = right_solutions(c, p)
    if len(solutions) == 0:
        return [NO_RIGHT_SOLUTION]
    return counted(solutions[0])


def turn(t, p):
    """Answer how many numbers the row has of the puzzle that p is turned into by turn t, then these."""
    refusal = refusal_of_turn(t, p)
    if refusal != NO_REFUSAL:
        return [refusal]
    return counted(turned(t, p[0], p[1], rows_of(p)))


def there(t, p, s):
    """Answer how many numbers the solution has to which s, a right one of p, goes by turn t, then these."""
    refusal = refusal_of_turn(t, p)
    if refusal != NO_REFUSAL:
        return [refusal]
    rows = rows_of(p)
    if not is_right(KINDS_TURNED[t], p[0], p[1], rows, s):
        return [NOT_RIGHT]
    return counted(gone_there(t, p[0], p[1], rows, s))


def home(t, p, s):
    """Answer how many numbers the solution of p has as which s, a right one of the turned p, comes home, then these."""
    refusal = refusal_of_turn(t, p)
    if refusal != NO_REFUSAL:
        return [refusal]
    rows = rows_of(p)
    later = turned(t, p[0], p[1], rows)
    if not is_right(KINDS_COME_TO[t], later[0], later[1], rows_of(later), s):
        return [NOT_RIGHT]
    return counted(come_home(t, p[0], p[1], rows, s))


def counted(numbers):
    """Give how many numbers there are, then these."""
    return [len(numbers)] + numbers


def refusal_of_puzzle(c, p):
    if c > WISHES or not is_puzzle_of_kind(c, p):
        return NOT_OF_THE_KIND
    if size_of(p[0], rows_of(p)) > MOST_SIZE:
        return TOO_GREAT
    return NO_REFUSAL


def refusal_of_search(c, p):
    """Give the refusal due where every list that may be a solution is to be tried."""
    refusal = refusal_of_puzzle(c, p)
    if refusal == NO_REFUSAL and are_too_many(p[0], choices_of(c, p[0])):
        return TOO_GREAT
    return refusal


def refusal_of_turn(t, p):
    if t >= len(KINDS_TURNED) or not is_puzzle_of_kind(KINDS_TURNED[t], p):
        return NOT_OF_THE_KIND
    if work_of(t, p[0], rows_of(p)) > MOST_WORK:
        return TOO_GREAT
    return NO_REFUSAL


def is_puzzle_of_kind(c, p):
    rows = rows_of(p)
    return rows is not None and is_of_kind(c, p[0], p[1], rows)


def rows_of(p):
    """Give the rows of the puzzle whose row is p, or None if p isn't a puzzle's row."""
    if len(p) < 2:
        return None
    rows = []
    start = 2
    while start < len(p):
        end = start + 1 + p[start]
        if end > len(p):
            return None
        rows.append(p[start + 1:end])
        start = end
    return rows


def size_of(n, rows):
    return n + len(rows) + sum([len(row) for row in rows])


def work_of(t, n, rows):
    size = size_of(n, rows)
    if t == ONE_WAY_TO_WISHES:
        return size * size + n * n * n
    return size * size


def is_of_kind(c, n, k, rows):
    if k != 0 and c != GUARDS and c != SHORT_TRIP:
        return False
    for row in rows:
        if not is_row_of_kind(c, n, row):
            return False
    # Wishes alone may stand in any order, and twice.
    return c == WISHES or are_in_order(rows)


def is_row_of_kind(c, n, row):
    if c == WISHES:
        return is_wish(n, row)
    if c == ONE_WAY_TRIP:
        return len(row) == 2 and row[0] != row[1] and row[0] < n and row[1] < n
    if c == SHORT_TRIP:
        return len(row) == 3 and row[0] < row[1] and row[1] < n
    return len(row) == 2 and row[0] < row[1] and row[1] < n


def is_wish(n, row):
    least = 0
    for saying in row:
        flag = saying // 2
        if flag < least or flag >= n:
            return False
        least = flag + 1
    return True


def are_in_order(rows):
    """Tell if the rows go up by their first two numbers, no two of them alike in both."""
    for i in range(1, len(rows)):
        if not stands_before(rows[i - 1], rows[i]):
            return False
    return True


def stands_before(row, other):
    if row[0] != other[0]:
        return row[0] < other[0]
    return row[1] < other[1]


def is_right(c, n, k, rows, s):
    if c == GUARDS:
        return is_choice(n, s) and sum(s) == k and are_guarded(rows, s)
    if c == WISHES:
        return is_choice(n, s) and are_met(rows, s)
    return is_trip(n, s) and goes_by_roads(road_lengths(c, rows), k, s)


def is_choice(n, s):
    """Tell if s says of each of the n 1 or 0."""
    if len(s) != n:
        return False
    for number in s:
        if number > 1:
            return False
    return True


def are_guarded(pairs, s):
    for pair in pairs:
        if s[pair[0]] == 0 and s[pair[1]] == 0:
            return False
    return True


def are_met(wishes, s):
    for wish in wishes:
        if not is_met(wish, s):
            return False
    return True


def is_met(wish, s):
    for saying in wish:
        # An even saying wants its flag up (1), an odd one wants it down (0).
        if s[saying // 2] == 1 - saying % 2:
            return True
    return False


def is_trip(n, s):
    if sorted(s) != list(range(n)):
        return False
    return n == 0 or s[0] == 0


def road_lengths(c, rows):
    """Give how long the road is from a to b, by (a, b), for each way that may be gone."""
    lengths = {}
    for row in rows:
        # Only a short trip's roads have a length: elsewhere 0 keeps every trip within k, which is 0.
        length = row[2] if c == SHORT_TRIP else 0
        lengths[(row[0], row[1])] = length
        if c != ONE_WAY_TRIP:
            lengths[(row[1], row[0])] = length
    return lengths


def goes_by_roads(lengths, k, trip):
    """Tell if each step of the trip has a road and these are k long at most, together."""
    total = 0
    for i in range(len(trip)):
        # Behind the last point comes the first again.
        step = (trip[i], trip[(i + 1) % len(trip)])
        if step not in lengths:
            return False
        total = total + lengths[step]
    return total <= k


def right_solutions(c, p):
    """Give all right solutions of p, in order."""
    n = p[0]
    rows = rows_of(p)
    return [s for s in lists_of(n, choices_of(c, n)) if is_right(c, n, p[1], rows, s)]


def choices_of(c, n):
    """Give how many numbers, from 0 on, each number of a solution may be."""
    if c == GUARDS or c == WISHES:
        return 2
    return n


def are_too_many(length, choices):
    # A long list is told first, so that the product below stays small.
    if length > MOST_NUMBERS:
        return True
    product = 1
    for place in range(length):
        product = product * choices
    return product > MOST_LISTS


def lists_of(length, choices):
    """Give all lists of that length of numbers below choices, in order."""
    lists = [[]]
    for place in range(length):
        longer = []
        for begun in lists:
            for number in range(choices):
                longer.append(begun + [number])
        lists = longer
    return lists
