"""The calls on one valley, and what is answered to a list of them.

Each call's function is handed the valley and the call's numbers, and gives back the numbers that are
answered: the call's own first, then those of out. A refusal gives back one number alone.
"""

from schoolplaces.tree import Village
from schoolplaces.tree import all_children
from schoolplaces.tree import all_roads
from schoolplaces.tree import all_ways
from schoolplaces.tree import are_beside
from schoolplaces.tree import beside
from schoolplaces.tree import best_places
from schoolplaces.tree import best_two
from schoolplaces.tree import branch
from schoolplaces.tree import branch_children
from schoolplaces.tree import children_in
from schoolplaces.tree import distances
from schoolplaces.tree import farthest
from schoolplaces.tree import heaviest
from schoolplaces.tree import line
from schoolplaces.tree import meeting
from schoolplaces.tree import over_half
from schoolplaces.tree import way_to_half
from schoolplaces.tree import ways_to_either
from schoolplaces.tree import with_children
from schoolplaces.tree import with_road

NO_VILLAGE = -2
NO_CHANGE = -2
ALONE = -6
OUT_OF_BOUNDS = -22
FULL = -28
NOT_THIS_ONE = -33

MOST_VILLAGES = 12
MOST_CHILDREN = 1000
LONGEST_ROAD = 1000
MOST_TAKEN_BACK = 20


class Valley:
    """The villages as they stand; as they stood before each change that can be taken back; and as they stood
    behind each one that can be done again, the one that was taken back last at the end.

    No list of villages is ever changed: each change hands in a new one, and the old one is kept whole.
    """

    def __init__(self):
        self.villages = []
        self.earlier = []
        self.later = []

    def begin(self, villages):
        """Start anew with these villages, and no changes."""
        self.villages = villages
        self.earlier = []
        self.later = []

    def change(self, villages):
        """Put these villages in the place of those there were."""
        self.earlier = (self.earlier + [self.villages])[-MOST_TAKEN_BACK:]
        self.later = []
        self.villages = villages

    def take_back(self):
        """Take the last change back."""
        self.later.append(self.villages)
        self.villages = self.earlier.pop()

    def do_again(self):
        """Do the change again that was taken back last."""
        self.earlier.append(self.villages)
        self.villages = self.later.pop()


def is_road(far):
    """Whether a road may be so long."""
    return 1 <= far <= LONGEST_ROAD


def bits(places):
    """A set of villages, told as bits."""
    told = 0
    for v in places:
        told = told | (1 << v)
    return told


def padded(numbers):
    """These numbers, with 0 behind the last, always twelve in all."""
    return numbers + [0] * (MOST_VILLAGES - len(numbers))


def row(places):
    """Villages one behind another, of each one more than its number, for 0 stands behind the last."""
    return padded([v + 1 for v in places])


def va_start(valley, numbers):
    many = numbers[0]
    if many > MOST_CHILDREN:
        return [OUT_OF_BOUNDS]
    valley.begin([Village(0, 0, many)])
    return [0]


def va_village(valley, numbers):
    up = numbers[0]
    far = numbers[1]
    many = numbers[2]
    if not is_road(far) or many > MOST_CHILDREN:
        return [OUT_OF_BOUNDS]
    if len(valley.villages) == MOST_VILLAGES:
        return [FULL]
    valley.change(valley.villages + [Village(up, far, many)])
    return [len(valley.villages) - 1]


def va_many(valley, numbers):
    v = numbers[0]
    many = numbers[1]
    if many > MOST_CHILDREN:
        return [OUT_OF_BOUNDS]
    had = valley.villages[v].children
    valley.change(with_children(valley.villages, v, many))
    return [had]


def va_road(valley, numbers):
    v = numbers[0]
    far = numbers[1]
    if not is_road(far):
        return [OUT_OF_BOUNDS]
    if v == 0:
        return [NOT_THIS_ONE]
    had = valley.villages[v].road
    valley.change(with_road(valley.villages, v, far))
    return [had]


def va_drop(valley, numbers):
    if len(valley.villages) == 1:
        return [NOT_THIS_ONE]
    valley.change(valley.villages[:-1])
    return [len(valley.villages)]


def va_far(valley, numbers):
    v = numbers[0]
    w = numbers[1]
    return [distances(valley.villages, v)[w], meeting(valley.villages, v, w)]


def va_ways(valley, numbers):
    return [all_ways(valley.villages, numbers[0])]


def va_best(valley, numbers):
    places = best_places(valley.villages)
    return [all_ways(valley.villages, places[0]), bits(places), len(places)]


def va_all(valley, numbers):
    many = len(valley.villages)
    return [many] + padded([all_ways(valley.villages, v) for v in range(many)])


def va_heavy(valley, numbers):
    v = numbers[0]
    w = heaviest(valley.villages, v)
    if w is None:
        return [ALONE]
    return [w, branch_children(valley.villages, v, w)]


def va_branch(valley, numbers):
    v = numbers[0]
    w = numbers[1]
    if not are_beside(valley.villages, v, w):
        return [NOT_THIS_ONE]
    places = branch(valley.villages, v, w)
    return [children_in(valley.villages, places), bits(places)]


def va_toward(valley, numbers):
    passed = way_to_half(valley.villages, numbers[0])
    return [len(passed) - 1] + row(passed)


def va_gain(valley, numbers):
    return [all_ways(valley.villages, numbers[0]) - all_ways(valley.villages, numbers[1])]


def va_two(valley, numbers):
    pair = best_two(valley.villages)
    if pair is None:
        return [ALONE]
    return [ways_to_either(valley.villages, pair[0], pair[1]), pair[0], pair[1]]


def va_both(valley, numbers):
    return [ways_to_either(valley.villages, numbers[0], numbers[1])]


def va_farthest(valley, numbers):
    v = numbers[0]
    w = farthest(valley.villages, v)
    return [w, distances(valley.villages, v)[w]]


def va_nearer(valley, numbers):
    far = distances(valley.villages, numbers[2])
    return [1 if far[numbers[1]] < far[numbers[0]] else 0]


def va_line(valley, numbers):
    places = line(valley.villages, numbers[0])
    return [len(places)] + row(places)


def va_beside(valley, numbers):
    places = beside(valley.villages, numbers[0])
    return [len(places), bits(places)]


def va_till(valley, numbers):
    # Children more in v are in none of its branches, so each one brings the half of all up by a half.
    return [over_half(valley.villages, numbers[0])]


def va_without(valley, numbers):
    villages = with_children(valley.villages, numbers[0], 0)
    places = best_places(villages)
    return [all_ways(villages, places[0]), bits(places)]


def va_look(valley, numbers):
    village = valley.villages[numbers[0]]
    return [village.children, village.up, village.road]


def va_sums(valley, numbers):
    return [all_children(valley.villages), all_roads(valley.villages)]


def va_back(valley, numbers):
    if len(valley.earlier) == 0:
        return [NO_CHANGE]
    valley.take_back()
    return [len(valley.earlier)]


def va_again(valley, numbers):
    if len(valley.later) == 0:
        return [NO_CHANGE]
    valley.do_again()
    return [len(valley.later)]


def va_state(valley, numbers):
    return [len(valley.villages), len(valley.earlier), len(valley.later)]


# At a call's number: its function, how many numbers it is handed, how many of these, ahead, are villages.
CALLS = (
    (va_start, 1, 0),
    (va_village, 3, 1),
    (va_many, 2, 1),
    (va_road, 2, 1),
    (va_drop, 0, 0),
    (va_far, 2, 2),
    (va_ways, 1, 1),
    (va_best, 0, 0),
    (va_all, 0, 0),
    (va_heavy, 1, 1),
    (va_branch, 2, 2),
    (va_toward, 1, 1),
    (va_gain, 2, 2),
    (va_two, 0, 0),
    (va_both, 2, 2),
    (va_farthest, 1, 1),
    (va_nearer, 3, 3),
    (va_line, 1, 1),
    (va_beside, 1, 1),
    (va_till, 1, 1),
    (va_without, 1, 1),
    (va_look, 1, 1),
    (va_sums, 0, 0),
    (va_back, 0, 0),
    (va_again, 0, 0),
    (va_state, 0, 0),
)


def answer(valley, call, numbers):
    """The numbers that are answered to one call."""
    # A village that isn't there is looked at first, whatever else could be refused.
    for v in numbers[:CALLS[call][2]]:
        if v >= len(valley.villages):
            return [NO_VILLAGE]
    run = CALLS[call][0]
    return run(valley, numbers)


def answers(calls):
    """For each of the calls on a new valley: how many numbers are answered, then these."""
    valley = Valley()
    told = []
    at = 0
    while at < len(calls):
        behind = at + 1 + CALLS[calls[at]][1]
        numbers = answer(valley, calls[at], calls[at + 1:behind])
        told.append(len(numbers))
        told.extend(numbers)
        at = behind
    return told
