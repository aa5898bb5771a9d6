"""What the tests share: calls as they stand in a list, the valleys they are made on, and what is answered."""

from schoolplaces.valley import answers

LARGEST = 4294967295
MOST = 12


def start(many):
    return [0, many]


def village(up, far, many):
    return [1, up, far, many]


def many(v, n):
    return [2, v, n]


def road(v, n):
    return [3, v, n]


def drop():
    return [4]


def far(v, w):
    return [5, v, w]


def ways(v):
    return [6, v]


def best():
    return [7]


def every():
    return [8]


def heavy(v):
    return [9, v]


def branch(v, w):
    return [10, v, w]


def toward(v):
    return [11, v]


def gain(v, w):
    return [12, v, w]


def joined(calls):
    """The calls as one list of whole numbers."""
    return [number for call in calls for number in call]


def split(told):
    """The numbers of each answer, one list for each call."""
    found = []
    at = 0
    while at < len(told):
        behind = at + 1 + told[at]
        found.append(told[at + 1:behind])
        at = behind
    if at != len(told):
        raise AssertionError("the last answer is cut short")
    return found


def ask(calls):
    """What is answered to each of the calls on a new valley."""
    found = split(answers(joined(calls)))
    if len(found) != len(calls):
        raise AssertionError("%d answers to %d calls" % (len(found), len(calls)))
    return found


def ask_last(calls):
    return ask(calls)[-1]


def padded(numbers):
    return numbers + [0] * (MOST - len(numbers))


def chain(children, length=1):
    """Each village beside the one before it."""
    return [start(children[0])] + [village(v, length, n) for v, n in enumerate(children[1:])]


def star(children, length=1):
    """All villages beside village 0."""
    return [start(children[0])] + [village(0, length, n) for n in children[1:]]


def mixed():
    """Six villages and 22 children: 0 with 1 and 2, 1 with 3 and 4, 2 with 5."""
    return [start(3), village(0, 2, 5), village(0, 4, 1), village(1, 3, 2), village(1, 1, 7), village(2, 6, 4)]


def survey():
    """Calls that bring to light all of a valley: how many villages, each road, all children."""
    pairs = [(v, w) for v in range(MOST) for w in range(MOST)]
    return [best(), every()] + [far(v, w) for v, w in pairs] + [branch(v, w) for v, w in pairs]


def look(calls):
    """The valley after these calls, as a survey of it is answered."""
    return ask(calls + survey())[len(calls):]
