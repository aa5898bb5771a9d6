"""What holds over the whole: asked of the program alone, of every small tree and of large ones by chance."""

import itertools
import unittest

from tests.helper import (again, ask, ask_last, back, beside, best, both, branch, chain, drop, every, far, gain,
                          large_trees, look, many, mixed, road, small_trees, star, start, sums, till, toward, two,
                          valley_after, village)


def trees():
    """Calls that make valleys: small ones, large ones, and some at the edges."""
    yield from small_trees(4, (0, 1, 3))
    yield from large_trees(90, 12)
    yield from large_trees(91, 6, children=2)
    yield from (mixed(), chain([1000] * 12, 1000), star([1000] * 12, 1000), star([0] * 12))


def bits(told):
    return [v for v in range(12) if told >> v & 1]


def asked(before, calls):
    """What is answered to each of the calls on the valley that is made before."""
    return ask(before + calls)[len(before):]


class HoldsTest(unittest.TestCase):
    def setUp(self):
        self.trees = list(trees())

    def best_places(self, before):
        return bits(ask_last(before + [best()])[1])

    def roads(self, before):
        """Each road from both of its ends."""
        told = asked(before, [beside(v) for v in range(len(before))])
        return [(v, w) for v in range(len(before)) for w in bits(told[v][1])]

    def test_just_where_no_branch_has_more_than_half(self):
        for before in self.trees:
            roads = self.roads(before)
            weights = asked(before, [branch(v, w) for v, w in roads])
            half_or_less = set(range(len(before)))
            for (v, w), weight in zip(roads, weights):
                if 2 * weight[0] > ask_last(before + [sums()])[0]:
                    half_or_less.discard(v)
            ways = ask_last(before + [every()])[1:len(before) + 1]
            self.assertEqual(self.best_places(before), sorted(half_or_less))
            self.assertEqual([v for v in range(len(before)) if ways[v] == min(ways)], sorted(half_or_less))

    def test_toward_the_half_comes_to_a_best_place(self):
        for before in self.trees:
            places = self.best_places(before)
            roads = self.roads(before)
            ways = ask_last(before + [every()])[1:]
            for told in asked(before, [toward(v) for v in range(len(before))]):
                passed = [v - 1 for v in told[1:] if v > 0]
                self.assertEqual(len(passed), told[0] + 1)
                self.assertIn(passed[-1], places)
                for v, w in zip(passed, passed[1:]):
                    self.assertIn((v, w), roads)
                    self.assertLess(ways[w], ways[v])

    def test_by_one_road(self):
        for before in self.trees:
            for v, w in self.roads(before):
                change, length, this_side, beyond = [told[0] for told in asked(
                    before, [gain(w, v), far(v, w), branch(w, v), branch(v, w)])]
                self.assertEqual(change, length * (this_side - beyond))

    def test_lengths_do_not_matter(self):
        for before in self.trees:
            for v in range(1, len(before)):
                for length in (1, 1000):
                    self.assertEqual(self.best_places(before + [road(v, length)]), self.best_places(before))
            longer = [road(v, 1 + 83 * v) for v in range(1, len(before))]
            self.assertEqual(self.best_places(before + longer), self.best_places(before))

    def test_till_it_is_best(self):
        for before in self.trees:
            places = self.best_places(before)
            for v in range(len(before)):
                more = ask_last(before + [till(v)])[0]
                had = ask_last(before + [look(v)])[0]
                self.assertEqual(more == 0, v in places)
                if had + more > 1000:
                    continue
                self.assertIn(v, self.best_places(before + [many(v, had + more)]))
                for fewer in {0, more // 2, more - 1} if more > 0 else ():
                    self.assertNotIn(v, self.best_places(before + [many(v, had + fewer)]))

    def test_no_two_are_better(self):
        for before in self.trees:
            if len(before) == 1:
                continue
            pairs = list(itertools.combinations(range(len(before)), 2))
            told = asked(before, [both(v, w) for v, w in pairs])
            least = min(ways[0] for ways in told)
            first = next(pair for pair, ways in zip(pairs, told) if ways[0] == least)
            self.assertEqual(ask_last(before + [two()]), [least, first[0], first[1]])

    def test_as_far_as_back_and_no_way_over_a_third_is_shorter(self):
        for before in self.trees:
            places = range(len(before))
            told = asked(before, [far(v, w) for v in places for w in places])
            length = {pair: each[0] for pair, each in zip(itertools.product(places, places), told)}
            for v, w in length:
                self.assertEqual(length[v, w], length[w, v])
                self.assertEqual(length[v, w] == 0, v == w)
                for x in places:
                    self.assertLessEqual(length[v, w], length[v, x] + length[x, w])

    def test_all_can_be_taken_back_and_done_again(self):
        for before in self.trees[::7]:
            changes = [many(0, 17), village(0, 40, 3), road(len(before) - 1, 6), drop(), many(0, 0)]
            made = [told for told in asked(before, changes) if told[0] >= 0]
            after = before + changes
            undone = after + [back()] * len(made)
            self.assertEqual(valley_after(undone), valley_after(before))
            self.assertEqual(valley_after(undone + [again()] * len(made)), valley_after(after))

    def test_back_to_the_very_start(self):
        for before in self.trees[::7]:
            undone = before + [back()] * (len(before) - 1)
            self.assertEqual(valley_after(undone), valley_after(before[:1]))
            self.assertEqual(valley_after(undone + [again()] * (len(before) - 1)), valley_after(before))
            self.assertEqual(ask_last(undone + [back()]), [-2])

    def test_from_one_village_to_twelve(self):
        self.assertIn([start(0)], self.trees)
        self.assertEqual(max(len(before) for before in self.trees), 12)


if __name__ == "__main__":
    unittest.main()
