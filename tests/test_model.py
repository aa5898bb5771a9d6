"""The program beside a second reckoning, which walks the roads one by one and shares nothing with it."""

import itertools
import random
import unittest

from tests.helper import (LARGEST, ask, best, branch, chain, drop, every, far, gain, heavy, many, mixed, padded, road,
                          star, start, toward, village, ways)


class Model:
    """Villages by number; each road by both of its ends."""

    def __init__(self):
        self.children = {}
        self.roads = {}
        self.ups = {}

    def near(self, v):
        return sorted(w for x, w in self.roads if x == v)

    def way(self, v, w):
        """The villages on the way from v to w, both among them."""
        found = [[v]]
        for passed in found:
            if passed[-1] == w:
                return passed
            found.extend(passed + [x] for x in self.near(passed[-1]) if x not in passed)
        raise AssertionError("no way")

    def length(self, v, w):
        way = self.way(v, w)
        return sum(self.roads[pair] for pair in zip(way, way[1:]))

    def all_ways(self, v):
        return sum(n * self.length(w, v) for w, n in self.children.items())

    def beyond(self, v, w):
        return [x for x in self.children if w in self.way(x, v) and w != v]

    def weight(self, v, w):
        return sum(self.children[x] for x in self.beyond(v, w))

    def heaviest(self, v):
        return min(self.near(v), key=lambda w: (-self.weight(v, w), w))

    def first_shared(self, v, w):
        line = set(self.way(w, 0))
        return next(x for x in self.way(v, 0) if x in line)

    def missing(self, *places):
        return any(v not in self.children for v in places)

    def start(self, n):
        if n > 1000:
            return [-22]
        self.children, self.roads, self.ups = {0: n}, {}, {}
        return [0]

    def village(self, up, length, n):
        if self.missing(up):
            return [-2]
        if length not in range(1, 1001) or n > 1000:
            return [-22]
        v = len(self.children)
        if v == 12:
            return [-28]
        self.children[v], self.ups[v] = n, up
        self.roads[v, up] = self.roads[up, v] = length
        return [v]

    def many(self, v, n):
        if self.missing(v):
            return [-2]
        if n > 1000:
            return [-22]
        old, self.children[v] = self.children[v], n
        return [old]

    def road(self, v, n):
        if self.missing(v):
            return [-2]
        if n not in range(1, 1001):
            return [-22]
        if v == 0:
            return [-33]
        up = self.ups[v]
        old = self.roads[v, up]
        self.roads[v, up] = self.roads[up, v] = n
        return [old]

    def drop(self):
        last = max(self.children)
        if last == 0:
            return [-33]
        up = self.ups.pop(last)
        del self.children[last], self.roads[last, up], self.roads[up, last]
        return [last]

    def far(self, v, w):
        return [-2] if self.missing(v, w) else [self.length(v, w), self.first_shared(v, w)]

    def ways(self, v):
        return [-2] if self.missing(v) else [self.all_ways(v)]

    def best(self):
        least = min(self.all_ways(v) for v in self.children)
        places = [v for v in self.children if self.all_ways(v) == least]
        return [least, sum(2 ** v for v in places), len(places)]

    def every(self):
        return [len(self.children)] + padded([self.all_ways(v) for v in sorted(self.children)])

    def heavy(self, v):
        if self.missing(v):
            return [-2]
        if len(self.children) == 1:
            return [-6]
        return [self.heaviest(v), self.weight(v, self.heaviest(v))]

    def branch(self, v, w):
        if self.missing(v, w):
            return [-2]
        if w not in self.near(v):
            return [-33]
        return [self.weight(v, w), sum(2 ** x for x in self.beyond(v, w))]

    def toward(self, v):
        if self.missing(v):
            return [-2]
        way = [v]
        while self.near(v) and 2 * self.weight(v, self.heaviest(v)) > sum(self.children.values()):
            v = self.heaviest(v)
            way.append(v)
        return [len(way) - 1] + padded([x + 1 for x in way])

    def gain(self, v, w):
        return [-2] if self.missing(v, w) else [self.all_ways(v) - self.all_ways(w)]

    def answer(self, call):
        names = ("start", "village", "many", "road", "drop", "far", "ways", "best", "every", "heavy", "branch",
                 "toward", "gain")
        return getattr(self, names[call[0]])(*call[1:])


def questions(places):
    """Every question of each of these places, and of each two of them."""
    asked = [best(), every()]
    for v in places:
        asked += [ways(v), heavy(v), toward(v)]
    for v, w in itertools.product(places, repeat=2):
        asked += [far(v, w), branch(v, w), gain(v, w)]
    return asked


def any_call(chance):
    """A call by chance, near the edges often."""
    v = chance.choice(list(range(13)) + [LARGEST])
    w = chance.choice(list(range(13)) + [LARGEST])
    n = chance.choice([0, 1, 2, 3, 5, 8, chance.randrange(1001), 1000, 1001, LARGEST])
    length = chance.choice([0, 1, 2, 3, 7, chance.randrange(1001), 1000, 1001])
    questioned = [far(v, w), ways(v), best(), every(), heavy(v), branch(v, w), toward(v), gain(v, w)]
    changed = [village(v % 6, length, n), village(v, length, n), village(0, 1, 1), many(v, n), road(v, length), drop()]
    return chance.choice(questioned + changed + changed + ([start(n)] if chance.randrange(20) == 0 else []))


class ModelTest(unittest.TestCase):
    def assert_alike(self, calls):
        model = Model()
        self.assertEqual(ask(calls), [model.answer(call) for call in calls])

    def test_every_small_tree(self):
        for size in range(1, 5):
            for ups in itertools.product(*[range(v) for v in range(1, size)]):
                for children in itertools.product((0, 1, 2), repeat=size):
                    roads = [village(up, v + 2, children[v + 1]) for v, up in enumerate(ups)]
                    self.assert_alike([start(children[0])] + roads + questions(range(size + 1)))

    def test_shapes(self):
        for before in ([start(7)], mixed(), chain([1] * 12), star([1] * 12, 4), chain([3, 0, 0, 3], 5),
                       chain([1000] * 12, 1000), star([0] * 12)):
            self.assert_alike(before + questions(range(13)))

    def test_calls_by_chance(self):
        chance = random.Random(12)
        for line in range(60):
            calls = [start(chance.randrange(1001))] + [any_call(chance) for call in range(150)]
            self.assert_alike(calls)

    def test_large_trees_by_chance(self):
        chance = random.Random(34)
        for line in range(20):
            before = [start(chance.randrange(10))]
            for v in range(1, 12):
                before.append(village(chance.randrange(v), chance.randrange(1, 1001), chance.randrange(10)))
            self.assert_alike(before + questions(range(12)))


if __name__ == "__main__":
    unittest.main()
