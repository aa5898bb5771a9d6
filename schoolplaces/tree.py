"""What can be reckoned of a list of villages, whose roads make a tree.

A village's up always has a lesser number than itself: much here leans on that.
"""


class Village:
    """One village. It stays as it was made: a change puts another one in its place.

    Village 0 has no up and no road, and is kept as its own up, with a road of length 0.
    """

    def __init__(self, up, road, children):
        self.up = up
        self.road = road
        self.children = children


def replaced(villages, v, village):
    """A copy of the villages, with this one in the place of v."""
    return villages[:v] + [village] + villages[v + 1:]


def with_children(villages, v, many):
    """A copy of the villages, with so many children in v."""
    return replaced(villages, v, Village(villages[v].up, villages[v].road, many))


def with_road(villages, v, far):
    """A copy of the villages, with v's road so long."""
    return replaced(villages, v, Village(villages[v].up, far, villages[v].children))


def line(villages, v):
    """The village v, its up, the up of that, and so on, to village 0."""
    passed = [v]
    while v != 0:
        v = villages[v].up
        passed.append(v)
    return passed


def meeting(villages, v, w):
    """The first village of v's line that is in w's line, too."""
    others = line(villages, w)
    return [x for x in line(villages, v) if x in others][0]


def distances(villages, v):
    """How far each village is from v."""
    far = {v: 0}
    for x in line(villages, v)[:-1]:
        far[villages[x].up] = far[x] + villages[x].road
    # Whoever isn't in v's line is reached over its up, and that one comes before it.
    for x in range(len(villages)):
        if x not in far:
            far[x] = far[villages[x].up] + villages[x].road
    return [far[x] for x in range(len(villages))]


def farthest(villages, v):
    """The village that is farthest from v; of like ones the least."""
    far = distances(villages, v)
    return far.index(max(far))


def ways_over(villages, far):
    """All ways, if the children of each village go as far as is told of it."""
    return sum([villages[x].children * far[x] for x in range(len(villages))])


def all_ways(villages, v):
    """All ways to v: of each village its children times how far it is from v, together."""
    return ways_over(villages, distances(villages, v))


def best_places(villages):
    """The villages to which all ways are least, the least number first."""
    ways = [all_ways(villages, v) for v in range(len(villages))]
    least = min(ways)
    return [v for v in range(len(villages)) if ways[v] == least]


def nearer_ways(villages, far, other):
    """All ways, each child going to the nearer of two villages; how far each one is from these is handed in."""
    return ways_over(villages, [min(far[x], other[x]) for x in range(len(villages))])


def ways_to_either(villages, v, w):
    """All ways, each child going to the nearer of v and w."""
    return nearer_ways(villages, distances(villages, v), distances(villages, w))


def best_two(villages):
    """The two villages, the lesser first, for which all ways to the nearer are least; None if there's only one."""
    far = [distances(villages, v) for v in range(len(villages))]
    pairs = []
    for v in range(len(villages)):
        pairs.extend([(v, w) for w in range(v + 1, len(villages))])
    # Of like ones min takes the first, and the pairs stand in their order.
    return min(pairs, key=lambda pair: nearer_ways(villages, far[pair[0]], far[pair[1]]), default=None)


def are_beside(villages, v, w):
    """Whether a road joins v and w."""
    # Village 0 is kept as its own up, though no road joins it with itself.
    return v != w and (villages[v].up == w or villages[w].up == v)


def beside(villages, v):
    """The villages beside v, the least number first."""
    return [w for w in range(len(villages)) if are_beside(villages, v, w)]


def branch(villages, v, w):
    """The villages of the branch at v beyond w, which is beside v."""
    if villages[w].up == v:
        return [x for x in range(len(villages)) if w in line(villages, x)]
    return [x for x in range(len(villages)) if v not in line(villages, x)]


def all_roads(villages):
    """How long all roads are, together."""
    return sum([village.road for village in villages])


def children_in(villages, places):
    """How many children these places have, together."""
    return sum([villages[x].children for x in places])


def all_children(villages):
    """How many children there are."""
    return sum([village.children for village in villages])


def branch_children(villages, v, w):
    """How many children the branch at v beyond w has."""
    return children_in(villages, branch(villages, v, w))


def heaviest(villages, v):
    """The village beside v beyond which the heaviest branch is; None if none is beside v."""
    # Of like ones max takes the first, and beside tells the least first.
    return max(beside(villages, v), key=lambda w: branch_children(villages, v, w), default=None)


def over_half(villages, v):
    """By how many twice the children of v's heaviest branch are above all children; 0 if they aren't."""
    w = heaviest(villages, v)
    if w is None:
        return 0
    return max(0, 2 * branch_children(villages, v, w) - all_children(villages))


def step_to_half(villages, v):
    """The village one goes to from v toward the half; None if one stays."""
    return heaviest(villages, v) if over_half(villages, v) > 0 else None


def way_to_half(villages, v):
    """The villages toward the half from v on, v first."""
    passed = [v]
    step = step_to_half(villages, v)
    while step is not None:
        passed.append(step)
        step = step_to_half(villages, step)
    return passed
