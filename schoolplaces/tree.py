"""What can be reckoned of a list of villages, whose roads make a tree.

A village's up always has a lesser number than itself: much here leans on that.
"""


class Village:
    """One village. It stays as it was made: a change puts another one in its place."""

    def __init__(self, up, road, children):
        self.up = up
        self.road = road
        self.children = children


def line(villages, v):
    """The village v, its up, the up of that, and so on, to village 0."""
    passed = [v]
    while v != 0:
        v = villages[v].up
        passed.append(v)
    return passed


def meeting(villages, v, w):
    """The first village of v's line that is in w's line, too."""
    others = line(villages, w)
    return [x for x in line(villages, v) if x in others][0]


def distances(villages, v):
    """How far each village is from v."""
    far = {v: 0}
    for x in line(villages, v)[:-1]:
        far[villages[x].up] = far[x] + villages[x].road
    # Whoever isn't in v's line is reached over its up, and that one comes before it.
    for x in range(len(villages)):
        if x not in far:
            far[x] = far[villages[x].up] + villages[x].road
    return [far[x] for x in range(len(villages))]


def all_ways(villages, v):
    """All ways to v: of each village its children times how far it is from v, together."""
    far = distances(villages, v)
    return sum([villages[x].children * far[x] for x in range(len(villages))])


def best_places(villages):
    """The villages to which all ways are least, the least number first."""
    ways = [all_ways(villages, v) for v in range(len(villages))]
    least = min(ways)
    return [v for v in range(len(villages)) if ways[v] == least]


def are_beside(villages, v, w):
    """Whether a road joins v and w."""
    # Village 0 is kept as its own up, though no road joins it with itself.
    return v != w and (villages[v].up == w or villages[w].up == v)


def beside(villages, v):
    """The villages beside v, the least number first."""
    return [w for w in range(len(villages)) if are_beside(villages, v, w)]


def branch(villages, v, w):
    """The villages of the branch at v beyond w, which is beside v."""
    if villages[w].up == v:
        return [x for x in range(len(villages)) if w in line(villages, x)]
    return [x for x in range(len(villages)) if v not in line(villages, x)]


def children_in(villages, places):
    """How many children these places have, together."""
    return sum([villages[x].children for x in places])


def all_children(villages):
    """How many children there are."""
    return sum([village.children for village in villages])


def branch_children(villages, v, w):
    """How many children the branch at v beyond w has."""
    return children_in(villages, branch(villages, v, w))


def heaviest(villages, v):
    """The village beside v beyond which the heaviest branch is; None if none is beside v."""
    # Of like ones max takes the first, and beside tells the least first.
    return max(beside(villages, v), key=lambda w: branch_children(villages, v, w), default=None)


def step_to_half(villages, v):
    """The village one goes to from v toward the half; None if one stays."""
    w = heaviest(villages, v)
    if w is None or 2 * branch_children(villages, v, w) <= all_children(villages):
        return None
    return w


def way_to_half(villages, v):
    """The villages toward the half from v on, v first."""
    passed = [v]
    step = step_to_half(villages, v)
    while step is not None:
        passed.append(step)
        step = step_to_half(villages, step)
    return passed
