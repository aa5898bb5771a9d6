"""What the tests share: calls as they stand in a list, the valleys they are made on, and what is answered."""

import itertools
import random
import unittest

from schoolplaces.valley import answers

LARGEST = 4294967295
MOST = 12


def start(many):
    return [0, many]


def village(up, far, many):
    return [1, up, far, many]


def many(v, n):
    return [2, v, n]


def road(v, n):
    return [3, v, n]


def drop():
    return [4]


def far(v, w):
    return [5, v, w]


def ways(v):
    return [6, v]


def best():
    return [7]


def every():
    return [8]


def heavy(v):
    return [9, v]


def branch(v, w):
    return [10, v, w]


def toward(v):
    return [11, v]


def gain(v, w):
    return [12, v, w]


def two():
    return [13]


def both(v, w):
    return [14, v, w]


def farthest(v):
    return [15, v]


def nearer(v, w, x):
    return [16, v, w, x]


def line(v):
    return [17, v]


def beside(v):
    return [18, v]


def till(v):
    return [19, v]


def without(v):
    return [20, v]


def look(v):
    return [21, v]


def sums():
    return [22]


def back():
    return [23]


def again():
    return [24]


def state():
    return [25]


def joined(calls):
    """The calls as one list of whole numbers."""
    return [number for call in calls for number in call]


def split(told):
    """The numbers of each answer, one list for each call."""
    found = []
    at = 0
    while at < len(told):
        behind = at + 1 + told[at]
        found.append(told[at + 1:behind])
        at = behind
    if at != len(told):
        raise AssertionError("the last answer is cut short")
    return found


def ask(calls):
    """What is answered to each of the calls on a new valley."""
    found = split(answers(joined(calls)))
    if len(found) != len(calls):
        raise AssertionError("%d answers to %d calls" % (len(found), len(calls)))
    return found


def ask_last(calls):
    return ask(calls)[-1]


def padded(numbers):
    return numbers + [0] * (MOST - len(numbers))


def chain(children, length=1):
    """Each village beside the one before it."""
    return [start(children[0])] + [village(v, length, n) for v, n in enumerate(children[1:])]


def star(children, length=1):
    """All villages beside village 0."""
    return [start(children[0])] + [village(0, length, n) for n in children[1:]]


def mixed():
    """Six villages and 22 children: 0 with 1 and 2, 1 with 3 and 4, 2 with 5."""
    return [start(3), village(0, 2, 5), village(0, 4, 1), village(1, 3, 2), village(1, 1, 7), village(2, 6, 4)]


def survey():
    """Calls that bring to light all of a valley but its changes: how many villages, each road, all children."""
    pairs = [(v, w) for v in range(MOST) for w in range(MOST)]
    found = [best(), every()] + [look(v) for v in range(MOST)]
    return found + [far(v, w) for v, w in pairs] + [branch(v, w) for v, w in pairs]


def valley_after(calls):
    """The valley after these calls, as a survey of it is answered."""
    return ask(calls + survey())[len(calls):]


def state_after(calls):
    """The villages, and the changes that can be taken back and done again, after these calls."""
    return ask_last(calls + [state()])


def small_trees(most, counts):
    """Calls that make each tree of so many villages at most, with each of these counts of children in each village."""
    for size in range(1, most + 1):
        for ups in itertools.product(*[range(v) for v in range(1, size)]):
            for children in itertools.product(counts, repeat=size):
                roads = [village(up, v + 2, children[v + 1]) for v, up in enumerate(ups)]
                yield [start(children[0])] + roads


def large_trees(seed, how_many, children=10):
    """Calls that make trees of twelve villages by chance, with fewer than so many children in each village."""
    chance = random.Random(seed)
    for tree in range(how_many):
        made = [start(chance.randrange(children))]
        for v in range(1, MOST):
            made.append(village(chance.randrange(v), chance.randrange(1, 1001), chance.randrange(children)))
        yield made


class RefusalCase(unittest.TestCase):
    def assert_refused(self, before, call, number):
        """The refusal is answered, stands alone, and leaves all as it was, changes too."""
        self.assertEqual(ask_last(before + [call]), [number])
        self.assertEqual(valley_after(before + [call]), valley_after(before))
        self.assertEqual(state_after(before + [call]), state_after(before))
        kept = before + [many(0, 1), many(0, 2), many(0, 3), back()]
        self.assertEqual(ask_last(kept + [call]), [number])
        self.assertEqual(state_after(kept + [call]), state_after(kept))
        for follow in ([back(), back()], [again()]):
            self.assertEqual(valley_after(kept + [call] + follow), valley_after(kept + follow))


class QuestionCase(unittest.TestCase):
    def assert_answers(self, before, asked):
        """asked: pairs of a call and what is answered to it, all on the valley that is made before."""
        told = ask(before + [call for call, expected in asked])[len(before):]
        self.assertEqual(told, [expected for call, expected in asked])
