"""The ways of solutions: there, to the puzzle that one is turned into."""

from roundtripsdesk.turns import GUARDS_TO_ONE_WAY, ONE_WAY_TO_ROADS, ONE_WAY_TO_WISHES, GuardPoints


def gone_there(t, n, k, rows, s):
    """Give the solution to which s, a right one of the puzzle of n, k and the rows, goes by turn t."""
    if t == GUARDS_TO_ONE_WAY:
        return guards_to_trip(n, k, rows, s)
    if t == ONE_WAY_TO_ROADS:
        return trip_to_threes(s)
    if t == ONE_WAY_TO_WISHES:
        return trip_to_flags(n, s)
    return list(s)


def guards_to_trip(n, k, pairs, s):
    points = GuardPoints(n, k, pairs)
    guards = guards_at_gates(points, s)
    trip = []
    for gate in range(points.gates):
        trip.append(gate)
        trip.extend(way_of_guard(points, guards[gate], guards))
    return trip


def guards_at_gates(points, s):
    """Give one who is in a pair for each gate, in order: all those that are chosen, then the least others."""
    chosen = [v for v in points.paired if s[v] == 1]
    others = [v for v in points.paired if s[v] == 0]
    return sorted(chosen + others[:points.gates - len(chosen)])


def way_of_guard(points, v, guards):
    """Give the points from v's first pair to its last, with those of each other one who is no guard."""
    way = []
    for w in points.others[v]:
        way.append(points.way_in(v, w))
        if w not in guards:
            # No gate leads to w, so its points of this pair are passed on the way.
            way.extend([points.way_in(w, v), points.way_out(w, v)])
        way.append(points.way_out(v, w))
    return way


def trip_to_threes(trip):
    threes = []
    for v in trip:
        threes.extend([3 * v, 3 * v + 1, 3 * v + 2])
    return threes


def trip_to_flags(n, trip):
    flags = [0] * (n * n)
    for place in range(n):
        flags[place * n + trip[place]] = 1
    return flags
