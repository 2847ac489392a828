"""The turns: the row of the puzzle that another one is turned into."""

GUARDS_TO_ONE_WAY = 0
ONE_WAY_TO_ROADS = 1
ROADS_TO_SHORT_TRIP = 2
ROADS_TO_ONE_WAY = 3
ONE_WAY_TO_WISHES = 4


def turned(t, n, k, rows):
    """Give the row of the puzzle that the one of n, k and the rows is turned into by turn t."""
    if t == GUARDS_TO_ONE_WAY:
        return guards_to_one_way(n, k, rows)
    if t == ONE_WAY_TO_ROADS:
        return one_way_to_roads(n, rows)
    if t == ROADS_TO_SHORT_TRIP:
        return roads_to_short_trip(n, rows)
    if t == ROADS_TO_ONE_WAY:
        return roads_to_one_way(n, rows)
    return one_way_to_wishes(n, rows)


def row_of(n, k, rows):
    laid = [n, k]
    for row in rows:
        laid.append(len(row))
        laid.extend(row)
    return laid


def guards_to_one_way(n, k, pairs):
    if k > n:
        # So many can't be chosen, and no trip leads through a point without roads.
        return row_of(1, 0, [])
    points = GuardPoints(n, k, pairs)
    roads = []
    for v in points.paired:
        roads.extend(gate_roads(points, v))
        roads.extend(pair_roads(points, v))
    return row_of(points.gates + 4 * len(pairs), 0, sorted(roads))


# The roads of turn 0, and the solutions that go there and come home by it, must number the points alike.
class GuardPoints:
    def __init__(self, n, k, pairs):
        self.others = others_of(n, pairs)
        self.paired = [v for v in range(n) if len(self.others[v]) > 0]
        self.gates = min(k, len(self.paired))
        self.entrances = entrances_of(self.gates, self.others)

    def way_in(self, v, w):
        """Give where one comes in at v's pair with w."""
        return self.entrances[(v, w)]

    def way_out(self, v, w):
        return self.entrances[(v, w)] + 1

    def first_way_in(self, v):
        return self.way_in(v, self.others[v][0])

    def last_way_out(self, v):
        return self.way_out(v, self.others[v][-1])


def others_of(n, pairs):
    """Give for each of the n the other ones of its pairs, in the order of the pairs."""
    others = [[] for v in range(n)]
    for pair in pairs:
        others[pair[0]].append(pair[1])
        others[pair[1]].append(pair[0])
    return others


def entrances_of(gates, others):
    """Give by (v, w) where one comes in at v's pair with w; one goes out at the point behind it."""
    entrances = {}
    for v in range(len(others)):
        for w in others[v]:
            entrances[(v, w)] = gates + 2 * len(entrances)
    return entrances


def gate_roads(points, v):
    """Give the roads from each gate to v's first pair, and from v's last pair to each gate."""
    roads = []
    for gate in range(points.gates):
        roads.append([gate, points.first_way_in(v)])
        roads.append([points.last_way_out(v), gate])
    return roads


def pair_roads(points, v):
    """Give the roads from the points of v's pairs, but those to the gates."""
    others = points.others[v]
    roads = []
    for i in range(len(others)):
        w = others[i]
        roads.append([points.way_in(v, w), points.way_out(v, w)])
        roads.append([points.way_in(v, w), points.way_in(w, v)])
        roads.append([points.way_out(v, w), points.way_out(w, v)])
        if i + 1 < len(others):
            roads.append([points.way_out(v, w), points.way_in(v, others[i + 1])])
    return roads


def one_way_to_roads(n, one_way_roads):
    roads = []
    for v in range(n):
        roads.append([3 * v, 3 * v + 1])
        roads.append([3 * v + 1, 3 * v + 2])
    for road in one_way_roads:
        roads.append(sorted([3 * road[0] + 2, 3 * road[1]]))
    return row_of(3 * n, 0, sorted(roads))


def roads_to_short_trip(n, roads):
    known = known_pairs(roads)
    long_roads = []
    for a in range(n):
        for b in range(a + 1, n):
            long_roads.append([a, b, 1 if (a, b) in known else 2])
    return row_of(n, n, long_roads)


def known_pairs(roads):
    known = {}
    for road in roads:
        known[(road[0], road[1])] = True
    return known


def roads_to_one_way(n, roads):
    both_ways = []
    for road in roads:
        both_ways.append([road[0], road[1]])
        both_ways.append([road[1], road[0]])
    return row_of(n, 0, sorted(both_ways))


def one_way_to_wishes(n, roads):
    if n == 0:
        return row_of(0, 0, [])
    wishes = [[up(0)]] + place_wishes(n) + point_wishes(n) + step_wishes(n, roads)
    if n == 1:
        # No road leads from a point to itself, so there must be no solution.
        wishes.append([])
    return row_of(n * n, 0, wishes)


def up(flag):
    return 2 * flag


def down(flag):
    return 2 * flag + 1


def place_wishes(n):
    """Give the wishes that at each place is one point, and no other."""
    wishes = []
    for place in range(n):
        flags = [place * n + v for v in range(n)]
        wishes.append([up(flag) for flag in flags])
        wishes.extend(not_both_up(flags))
    return wishes


def point_wishes(n):
    """Give the wishes that each point is at no two places."""
    wishes = []
    for v in range(n):
        wishes.extend(not_both_up([place * n + v for place in range(n)]))
    return wishes


def not_both_up(flags):
    """Give for each two of the flags the wish that one or the other is down."""
    wishes = []
    for i in range(len(flags)):
        for j in range(i + 1, len(flags)):
            wishes.append([down(flags[i]), down(flags[j])])
    return wishes


def step_wishes(n, roads):
    """Give the wishes that no step of the trip goes where no road leads."""
    known = known_pairs(roads)
    wishes = []
    for place in range(n):
        # Behind the last place comes place 0.
        behind = (place + 1) % n
        for u in range(n):
            for w in range(n):
                if u != w and (u, w) not in known:
                    wishes.append(sorted([down(place * n + u), down(behind * n + w)]))
    return wishes
