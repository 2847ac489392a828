"""The ways of solutions: there, to the puzzle that one is turned into, and home from it."""

from roundtripsdesk.turns import GUARDS_TO_ONE_WAY, ONE_WAY_TO_ROADS, ONE_WAY_TO_WISHES, GuardPoints


def gone_there(t, n, k, rows, s):
    """Give the solution to which s, a right one of the puzzle of n, k and the rows, goes by turn t."""
    if t == GUARDS_TO_ONE_WAY:
        return guards_to_trip(n, k, rows, s)
    if t == ONE_WAY_TO_ROADS:
        return trip_to_threes(s)
    if t == ONE_WAY_TO_WISHES:
        return trip_to_flags(n, s)
    return list(s)


def come_home(t, n, k, rows, s):
    """Give the solution of the puzzle of n, k and the rows as which s, a right one of the turned one, comes home."""
    if t == GUARDS_TO_ONE_WAY:
        return trip_to_guards(n, k, rows, s)
    if t == ONE_WAY_TO_ROADS:
        return threes_to_trip(s)
    if t == ONE_WAY_TO_WISHES:
        return flags_to_trip(n, s)
    return list(s)


def guards_to_trip(n, k, pairs, s):
    points = GuardPoints(n, k, pairs)
    guards = guards_at_gates(points, s)
    trip = []
    for gate in range(points.gates):
        trip.append(gate)
        trip.extend(way_of_guard(points, guards[gate], guards))
    return trip


def guards_at_gates(points, s):
    """Give one who is in a pair for each gate, in order: all those that are chosen, then the least others."""
    chosen = [v for v in points.paired if s[v] == 1]
    others = [v for v in points.paired if s[v] == 0]
    return sorted(chosen + others[:points.gates - len(chosen)])


def way_of_guard(points, v, guards):
    """Give the points from v's first pair to its last, with those of each other one who is no guard."""
    way = []
    for w in points.others[v]:
        way.append(points.way_in(v, w))
        if w not in guards:
            # The trip comes to w from no gate, so w's points of this pair are gone through here.
            way.extend([points.way_in(w, v), points.way_out(w, v)])
        way.append(points.way_out(v, w))
    return way


def trip_to_guards(n, k, pairs, trip):
    points = GuardPoints(n, k, pairs)
    guards = [v for v in points.paired if comes_from_gate(points, v, trip)]
    others = [v for v in range(n) if v not in guards]
    guards.extend(others[:k - len(guards)])
    return [1 if v in guards else 0 for v in range(n)]


def comes_from_gate(points, v, trip):
    """Tell if the trip comes to v's first pair from a gate."""
    return trip[trip.index(points.first_way_in(v)) - 1] < points.gates


def trip_to_threes(trip):
    threes = []
    for v in trip:
        threes.extend([3 * v, 3 * v + 1, 3 * v + 2])
    return threes


def threes_to_trip(threes):
    if threes[1:2] != [1]:
        # Each point's three are gone through backwards: turned about it's a trip the right way.
        threes = threes[:1] + list(reversed(threes[1:]))
    return [point // 3 for point in threes[::3]]


def trip_to_flags(n, trip):
    flags = [0] * (n * n)
    for place in range(n):
        flags[place * n + trip[place]] = 1
    return flags


def flags_to_trip(n, flags):
    # Index gives the first flag of the place that is up.
    return [flags[place * n:place * n + n].index(1) for place in range(n)]
