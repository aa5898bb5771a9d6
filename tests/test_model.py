"""The program beside a second reckoning, which walks the roads one by one and shares nothing with it."""

import itertools
import random
import unittest

from tests.helper import (LARGEST, again, ask, back, beside, best, both, branch, chain, drop, every, far, farthest,
                          gain, heavy, large_trees, line, look, many, mixed, nearer, padded, road, small_trees, star,
                          start, state, sums, till, toward, two, village, ways, without)

NAMES = ("start", "village", "many", "road", "drop", "far", "ways", "best", "every", "heavy", "branch", "toward",
         "gain", "two", "both", "farthest", "nearer", "line", "beside", "till", "without", "look", "sums", "back",
         "again", "state")


class Model:
    """Villages by number; each road by both of its ends.

    Taking back is reckoned from the changes themselves: all that are left are made once more from the start on.
    """

    def __init__(self):
        self.children = {}
        self.roads = {}
        self.ups = {}
        self.begun = 0
        self.done = []
        self.undone = []
        self.oldest = 0

    def near(self, v):
        return sorted(w for x, w in self.roads if x == v)

    def way(self, v, w):
        """The villages on the way from v to w, both among them."""
        found = [[v]]
        for passed in found:
            if passed[-1] == w:
                return passed
            found.extend(passed + [x] for x in self.near(passed[-1]) if x not in passed)
        raise AssertionError("no way")

    def length(self, v, w):
        way = self.way(v, w)
        return sum(self.roads[pair] for pair in zip(way, way[1:]))

    def all_ways(self, v):
        return sum(n * self.length(w, v) for w, n in self.children.items())

    def beyond(self, v, w):
        return [x for x in self.children if w in self.way(x, v) and w != v]

    def weight(self, v, w):
        return sum(self.children[x] for x in self.beyond(v, w))

    def heaviest(self, v):
        return min(self.near(v), key=lambda w: (-self.weight(v, w), w))

    def first_shared(self, v, w):
        line = set(self.way(w, 0))
        return next(x for x in self.way(v, 0) if x in line)

    def missing(self, *places):
        return any(v not in self.children for v in places)

    def start(self, n):
        if n > 1000:
            return [-22]
        self.children, self.roads, self.ups = {0: n}, {}, {}
        self.begun, self.done, self.undone, self.oldest = n, [], [], 0
        return [0]

    def replay(self, changes):
        self.children, self.roads, self.ups = {0: self.begun}, {}, {}
        for call in changes:
            getattr(self, NAMES[call[0]])(*call[1:])
        self.done = changes

    def village(self, up, length, n):
        if self.missing(up):
            return [-2]
        if length not in range(1, 1001) or n > 1000:
            return [-22]
        v = len(self.children)
        if v == 12:
            return [-28]
        self.children[v], self.ups[v] = n, up
        self.roads[v, up] = self.roads[up, v] = length
        return [v]

    def many(self, v, n):
        if self.missing(v):
            return [-2]
        if n > 1000:
            return [-22]
        old, self.children[v] = self.children[v], n
        return [old]

    def road(self, v, n):
        if self.missing(v):
            return [-2]
        if n not in range(1, 1001):
            return [-22]
        if v == 0:
            return [-33]
        up = self.ups[v]
        old = self.roads[v, up]
        self.roads[v, up] = self.roads[up, v] = n
        return [old]

    def drop(self):
        last = max(self.children)
        if last == 0:
            return [-33]
        up = self.ups.pop(last)
        del self.children[last], self.roads[last, up], self.roads[up, last]
        return [last]

    def far(self, v, w):
        return [-2] if self.missing(v, w) else [self.length(v, w), self.first_shared(v, w)]

    def ways(self, v):
        return [-2] if self.missing(v) else [self.all_ways(v)]

    def best(self):
        least = min(self.all_ways(v) for v in self.children)
        places = [v for v in self.children if self.all_ways(v) == least]
        return [least, sum(2 ** v for v in places), len(places)]

    def every(self):
        return [len(self.children)] + padded([self.all_ways(v) for v in sorted(self.children)])

    def heavy(self, v):
        if self.missing(v):
            return [-2]
        if len(self.children) == 1:
            return [-6]
        return [self.heaviest(v), self.weight(v, self.heaviest(v))]

    def branch(self, v, w):
        if self.missing(v, w):
            return [-2]
        if w not in self.near(v):
            return [-33]
        return [self.weight(v, w), sum(2 ** x for x in self.beyond(v, w))]

    def toward(self, v):
        if self.missing(v):
            return [-2]
        way = [v]
        while self.near(v) and 2 * self.weight(v, self.heaviest(v)) > sum(self.children.values()):
            v = self.heaviest(v)
            way.append(v)
        return [len(way) - 1] + padded([x + 1 for x in way])

    def gain(self, v, w):
        return [-2] if self.missing(v, w) else [self.all_ways(v) - self.all_ways(w)]

    def lengths(self, v):
        return {w: self.length(v, w) for w in self.children}

    def shared_ways(self, first, second):
        return sum(n * min(first[x], second[x]) for x, n in self.children.items())

    def two(self):
        if len(self.children) == 1:
            return [-6]
        table = {v: self.lengths(v) for v in self.children}
        return list(min((self.shared_ways(table[v], table[w]), v, w) for v in table for w in table if v < w))

    def both(self, v, w):
        return [-2] if self.missing(v, w) else [self.shared_ways(self.lengths(v), self.lengths(w))]

    def farthest(self, v):
        if self.missing(v):
            return [-2]
        length, w = min((-length, w) for w, length in self.lengths(v).items())
        return [w, -length]

    def nearer(self, v, w, x):
        return [-2] if self.missing(v, w, x) else [int(self.length(x, w) < self.length(x, v))]

    def line(self, v):
        if self.missing(v):
            return [-2]
        return [len(self.way(v, 0))] + padded([x + 1 for x in self.way(v, 0)])

    def beside(self, v):
        return [-2] if self.missing(v) else [len(self.near(v)), sum(2 ** w for w in self.near(v))]

    def till(self, v):
        """A child more in v makes no way to v longer, and the ways to each other one by how far that is."""
        if self.missing(v):
            return [-2]
        others = [w for w in self.children if w != v]
        behind = {w: self.all_ways(v) - self.all_ways(w) for w in others}
        return [max([0] + [-(-behind[w] // self.length(v, w)) for w in others])]

    def without(self, v):
        if self.missing(v):
            return [-2]
        had, self.children[v] = self.children[v], 0
        told = self.best()
        self.children[v] = had
        return told[:2]

    def look(self, v):
        if self.missing(v):
            return [-2]
        return [self.children[v], self.ups.get(v, 0), self.roads[v, self.ups[v]] if v else 0]

    def sums(self):
        return [sum(self.children.values()), sum(self.roads.values()) // 2]

    def back(self):
        if len(self.done) == self.oldest:
            return [-2]
        self.undone.append(self.done[-1])
        self.replay(self.done[:-1])
        return [len(self.done) - self.oldest]

    def again(self):
        if not self.undone:
            return [-2]
        self.replay(self.done + [self.undone.pop()])
        return [len(self.undone)]

    def state(self):
        return [len(self.children), len(self.done) - self.oldest, len(self.undone)]

    def answer(self, call):
        told = getattr(self, NAMES[call[0]])(*call[1:])
        if NAMES[call[0]] in ("village", "many", "road", "drop") and told[0] >= 0:
            self.done.append(call)
            self.undone = []
            self.oldest = max(self.oldest, len(self.done) - 20)
        return told


def questions(places):
    """Every question of each of these places, and of each two of them."""
    asked = [best(), every(), two(), sums(), state()]
    for v in places:
        asked += [ways(v), heavy(v), toward(v), farthest(v), line(v), beside(v), till(v), without(v), look(v)]
    for v, w in itertools.product(places, repeat=2):
        asked += [far(v, w), branch(v, w), gain(v, w), both(v, w), nearer(v, w, places[0]), nearer(v, w, places[-1])]
    return asked


def any_call(chance):
    """A call by chance, near the edges often."""
    v, w, x = [chance.choice(list(range(13)) + [LARGEST]) for place in range(3)]
    n = chance.choice([0, 1, 2, 3, 5, 8, chance.randrange(1001), 1000, 1001, LARGEST])
    length = chance.choice([0, 1, 2, 3, 7, chance.randrange(1001), 1000, 1001])
    questioned = [far(v, w), ways(v), best(), every(), heavy(v), branch(v, w), toward(v), gain(v, w), two(), both(v, w),
                  farthest(v), nearer(v, w, x), line(v), beside(v), till(v), without(v), look(v), sums(), state()]
    changed = [village(v % 6, length, n), village(v, length, n), village(0, 1, 1), many(v, n), many(v % 6, n),
               road(v, length), drop()]
    if chance.randrange(400) == 0:
        return start(n)
    return chance.choice(chance.choice([questioned, changed, changed, [back(), back(), again()]]))


class ModelTest(unittest.TestCase):
    def assert_alike(self, calls):
        model = Model()
        self.assertEqual(ask(calls), [model.answer(call) for call in calls])

    def test_every_small_tree(self):
        for before in small_trees(4, (0, 1, 2)):
            self.assert_alike(before + questions(range(len(before) + 1)))

    def test_shapes(self):
        for before in ([start(7)], mixed(), chain([1] * 12), star([1] * 12, 4), chain([3, 0, 0, 3], 5),
                       chain([1000] * 12, 1000), star([0] * 12)):
            asked = questions(range(13))
            self.assert_alike(before + asked[:900])
            self.assert_alike(before + asked[900:])

    def test_calls_by_chance(self):
        chance = random.Random(12)
        for turn in range(60):
            calls = [start(chance.randrange(1001))] + [any_call(chance) for call in range(200)]
            self.assert_alike(calls)

    def test_changes_by_chance(self):
        """Runs of back and again among the changes, so that the twenty are come by from both sides."""
        chance = random.Random(56)
        for turn in range(40):
            calls = [start(5)]
            while len(calls) < 200:
                run = chance.choice([[back()], [again()], [many(0, len(calls))], [village(0, 1, 1)], [drop()]])
                calls += run * chance.randrange(1, 26) + [state(), look(0), sums()]
            self.assert_alike(calls)

    def test_large_trees_by_chance(self):
        for before in large_trees(34, 20):
            self.assert_alike(before + questions(range(12)))


if __name__ == "__main__":
    unittest.main()
