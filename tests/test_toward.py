"""Of point 4: the way toward the half, and how much is gained."""

import unittest

from tests.helper import LARGEST, ask, ask_last, chain, drop, gain, mixed, padded, star, start, toward, village


class TowardTest(unittest.TestCase):
    def assert_way(self, before, way):
        self.assertEqual(ask_last(before + [toward(way[0])]), [len(way) - 1] + padded([v + 1 for v in way]))

    def test_mixed_tree(self):
        for way in ([0, 1], [1], [2, 0, 1], [3, 1], [4, 1], [5, 2, 0, 1]):
            self.assert_way(mixed(), way)

    def test_twelve_numbers_always(self):
        self.assertEqual(ask_last([start(8), toward(0)]), [0, 1] + [0] * 11)
        self.assertEqual(ask_last(chain([0] * 11 + [1]) + [toward(0)]), [11] + list(range(1, 13)))
        self.assertEqual(ask_last(chain([1] + [0] * 11) + [toward(11)]), [11] + list(range(12, 0, -1)))

    def test_star(self):
        self.assert_way(star([1] * 12), [0])
        self.assert_way(star([1] * 12), [11, 0])
        self.assert_way(star([1] * 11 + [12]), [5, 0, 11])

    def test_just_half_stays(self):
        self.assert_way(chain([5, 5]), [0])
        self.assert_way(chain([5, 5]), [1])
        self.assert_way(chain([5, 0, 5]), [1])
        self.assert_way(chain([5, 0, 5]), [0])

    def test_more_than_half_goes_on(self):
        self.assert_way(chain([5, 6]), [0, 1])
        self.assert_way(chain([5, 6]), [1])
        self.assert_way(chain([6, 5]), [1, 0])
        self.assert_way(chain([5, 0, 6]), [0, 1, 2])

    def test_stops_at_the_first_best_place(self):
        self.assert_way(chain([1, 5, 0, 6]), [0, 1])
        self.assert_way(chain([1, 5, 0, 6]), [3])

    def test_no_children(self):
        for v in range(4):
            self.assert_way(chain([0, 0, 0, 0]), [v])
        self.assert_way([start(0)], [0])

    def test_a_village_that_is_not_there(self):
        for before, v in ((mixed(), 6), (mixed(), LARGEST), ([start(1)], 1), (mixed() + [drop()], 5)):
            self.assertEqual(ask_last(before + [toward(v)]), [-2])


class GainTest(unittest.TestCase):
    def test_above_and_below_0(self):
        told = ask(mixed() + [gain(0, 1), gain(1, 0), gain(5, 1), gain(1, 5), gain(2, 3), gain(3, 3)])[6:]
        self.assertEqual(told, [[12], [-12], [144], [-144], [6], [0]])

    def test_reckoned_like_a_refusal(self):
        self.assertEqual(ask_last([start(1), village(0, 2, 2), gain(1, 0)]), [-2])
        self.assertEqual(ask_last([start(24), village(0, 1, 2), gain(0, 1)]), [-22])

    def test_largest(self):
        before = chain([1000] * 12, 1000)
        self.assertEqual(ask(before + [gain(5, 0), gain(0, 5)])[12:], [[-30000000], [30000000]])

    def test_a_village_that_is_not_there(self):
        for v, w in ((6, 0), (0, 6), (6, 6), (LARGEST, 0), (0, LARGEST)):
            self.assertEqual(ask_last(mixed() + [gain(v, w)]), [-2])


if __name__ == "__main__":
    unittest.main()
