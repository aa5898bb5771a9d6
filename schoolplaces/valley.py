"""The calls on one valley, and what is answered to a list of them.

Each call's function is handed the valley and the call's numbers, and gives back the numbers that are
answered: the call's own first, then those of out. A refusal gives back one number alone.
"""

from schoolplaces.tree import Village
from schoolplaces.tree import all_ways
from schoolplaces.tree import are_beside
from schoolplaces.tree import best_places
from schoolplaces.tree import branch
from schoolplaces.tree import branch_children
from schoolplaces.tree import children_in
from schoolplaces.tree import distances
from schoolplaces.tree import heaviest
from schoolplaces.tree import meeting
from schoolplaces.tree import way_to_half

NO_VILLAGE = -2
NONE_BESIDE = -6
OUT_OF_BOUNDS = -22
FULL = -28
NOT_THIS_ONE = -33

MOST_VILLAGES = 12
MOST_CHILDREN = 1000
LONGEST_ROAD = 1000


class Valley:
    """The villages as they stand."""

    def __init__(self):
        self.villages = []

    def begin(self, villages):
        """Start anew with these villages."""
        self.villages = villages

    def change(self, villages):
        """Put these villages in the place of those there were."""
        # A change hands in a new list and the old one stays whole, for changes are to be taken back some day.
        self.villages = villages


def is_road(far):
    """Whether a road may be so long."""
    return 1 <= far <= LONGEST_ROAD


def replaced(villages, v, village):
    """A copy of the villages, with this one in the place of v."""
    return villages[:v] + [village] + villages[v + 1:]


def bits(places):
    """A set of villages, told as bits."""
    told = 0
    for v in places:
        told = told | (1 << v)
    return told


def padded(numbers):
    """These numbers, with 0 behind the last, always twelve in all."""
    return numbers + [0] * (MOST_VILLAGES - len(numbers))


def va_start(valley, numbers):
    many = numbers[0]
    if many > MOST_CHILDREN:
        return [OUT_OF_BOUNDS]
    valley.begin([Village(0, 0, many)])
    return [0]


def va_village(valley, numbers):
    up = numbers[0]
    far = numbers[1]
    many = numbers[2]
    if not is_road(far) or many > MOST_CHILDREN:
        return [OUT_OF_BOUNDS]
    if len(valley.villages) == MOST_VILLAGES:
        return [FULL]
    valley.change(valley.villages + [Village(up, far, many)])
    return [len(valley.villages) - 1]


def va_many(valley, numbers):
    v = numbers[0]
    many = numbers[1]
    if many > MOST_CHILDREN:
        return [OUT_OF_BOUNDS]
    old = valley.villages[v]
    valley.change(replaced(valley.villages, v, Village(old.up, old.road, many)))
    return [old.children]


def va_road(valley, numbers):
    v = numbers[0]
    far = numbers[1]
    if not is_road(far):
        return [OUT_OF_BOUNDS]
    if v == 0:
        return [NOT_THIS_ONE]
    old = valley.villages[v]
    valley.change(replaced(valley.villages, v, Village(old.up, far, old.children)))
    return [old.road]


def va_drop(valley, numbers):
    if len(valley.villages) == 1:
        return [NOT_THIS_ONE]
    valley.change(valley.villages[:-1])
    return [len(valley.villages)]


def va_far(valley, numbers):
    v = numbers[0]
    w = numbers[1]
    return [distances(valley.villages, v)[w], meeting(valley.villages, v, w)]


def va_ways(valley, numbers):
    return [all_ways(valley.villages, numbers[0])]


def va_best(valley, numbers):
    places = best_places(valley.villages)
    return [all_ways(valley.villages, places[0]), bits(places), len(places)]


def va_all(valley, numbers):
    many = len(valley.villages)
    return [many] + padded([all_ways(valley.villages, v) for v in range(many)])


def va_heavy(valley, numbers):
    v = numbers[0]
    w = heaviest(valley.villages, v)
    if w is None:
        return [NONE_BESIDE]
    return [w, branch_children(valley.villages, v, w)]


def va_branch(valley, numbers):
    v = numbers[0]
    w = numbers[1]
    if not are_beside(valley.villages, v, w):
        return [NOT_THIS_ONE]
    places = branch(valley.villages, v, w)
    return [children_in(valley.villages, places), bits(places)]


def va_toward(valley, numbers):
    passed = way_to_half(valley.villages, numbers[0])
    return [len(passed) - 1] + padded([v + 1 for v in passed])


def va_gain(valley, numbers):
    return [all_ways(valley.villages, numbers[0]) - all_ways(valley.villages, numbers[1])]


# At a call's number: its function, how many numbers it is handed, how many of these, ahead, are villages.
CALLS = (
    (va_start, 1, 0),
    (va_village, 3, 1),
    (va_many, 2, 1),
    (va_road, 2, 1),
    (va_drop, 0, 0),
    (va_far, 2, 2),
    (va_ways, 1, 1),
    (va_best, 0, 0),
    (va_all, 0, 0),
    (va_heavy, 1, 1),
    (va_branch, 2, 2),
    (va_toward, 1, 1),
    (va_gain, 2, 2),
)


def answer(valley, call, numbers):
    """The numbers that are answered to one call."""
    # A village that isn't there is looked at first, whatever else could be refused.
    for v in numbers[:CALLS[call][2]]:
        if v >= len(valley.villages):
            return [NO_VILLAGE]
    run = CALLS[call][0]
    return run(valley, numbers)


def answers(calls):
    """For each of the calls on a new valley: how many numbers are answered, then these."""
    valley = Valley()
    told = []
    at = 0
    while at < len(calls):
        behind = at + 1 + CALLS[calls[at]][1]
        numbers = answer(valley, calls[at], calls[at + 1:behind])
        told.append(len(numbers))
        told.extend(numbers)
        at = behind
    return told
