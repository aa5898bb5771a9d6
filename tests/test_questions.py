"""Point 3: how far, all ways, the best places, and branches."""

import unittest

from tests.helper import (LARGEST, QuestionCase, ask, ask_last, best, branch, chain, drop, every, far, heavy, many,
                          mixed, padded, road, star, start, village, ways)


class FarTest(QuestionCase):
    def test_over_the_first_that_both_lines_have(self):
        self.assert_answers(mixed(), [(far(3, 5), [15, 0]), (far(5, 3), [15, 0]), (far(3, 4), [4, 1]),
                                      (far(1, 2), [6, 0]), (far(4, 2), [7, 0])])

    def test_one_in_the_line_of_the_other(self):
        self.assert_answers(mixed(), [(far(4, 1), [1, 1]), (far(1, 4), [1, 1]), (far(5, 0), [10, 0]),
                                      (far(0, 3), [5, 0]), (far(2, 5), [6, 2])])

    def test_from_itself(self):
        self.assert_answers(mixed(), [(far(v, v), [0, v]) for v in range(6)])
        self.assert_answers([start(4)], [(far(0, 0), [0, 0])])

    def test_longest_chain(self):
        self.assert_answers(chain([0] * 12, 1000), [(far(0, 11), [11000, 0]), (far(11, 0), [11000, 0]),
                                                    (far(10, 4), [6000, 4])])

    def test_star(self):
        self.assert_answers(star([1] * 12, 3), [(far(11, 1), [6, 0]), (far(11, 0), [3, 0])])

    def test_a_village_that_is_not_there(self):
        self.assert_answers(mixed(), [(far(v, w), [-2]) for v, w in (
            (6, 0), (0, 6), (6, 6), (LARGEST, 0), (0, LARGEST), (LARGEST, LARGEST))])
        self.assert_answers([start(1)], [(far(1, 0), [-2]), (far(0, 1), [-2])])


class WaysTest(QuestionCase):
    def test_mixed_tree(self):
        expected = [85, 73, 133, 127, 81, 217]
        self.assert_answers(mixed(), [(ways(v), [expected[v]]) for v in range(6)])

    def test_one_alone(self):
        self.assert_answers([start(1000)], [(ways(0), [0])])

    def test_no_children(self):
        self.assert_answers(chain([0, 0, 0], 9), [(ways(v), [0]) for v in range(3)])

    def test_largest(self):
        self.assert_answers(chain([1000] * 12, 1000), [(ways(0), [66000000]), (ways(5), [36000000])])

    def test_after_changes(self):
        self.assert_answers(mixed() + [many(5, 0), road(4, 10)], [(ways(0), [10 + 4 + 10 + 84]), (ways(5), [280])])

    def test_a_village_that_is_not_there(self):
        self.assert_answers(mixed(), [(ways(6), [-2]), (ways(LARGEST), [-2])])
        self.assert_answers(mixed() + [drop()], [(ways(5), [-2])])


class BestTest(QuestionCase):
    def test_one_best_place(self):
        self.assert_answers(mixed(), [(best(), [73, 2, 1])])
        self.assert_answers(star([0] + [2] * 11, 5), [(best(), [110, 1, 1])])

    def test_one_alone(self):
        self.assert_answers([start(8)], [(best(), [0, 1, 1])])
        self.assert_answers([start(0)], [(best(), [0, 1, 1])])

    def test_two_best_places(self):
        self.assert_answers(chain([5, 5], 3), [(best(), [15, 3, 2])])
        self.assert_answers(chain([1000] * 12, 1000), [(best(), [36000000, 96, 2])])

    def test_more_best_places(self):
        self.assert_answers(chain([5, 0, 0, 5], 2), [(best(), [30, 15, 4])])

    def test_no_children(self):
        self.assert_answers(star([0] * 12), [(best(), [0, 4095, 12])])

    def test_lengths_do_not_matter(self):
        for n in (1, 1000):
            self.assertEqual(ask_last(mixed() + [road(5, n), best()])[1:], [2, 1])

    def test_the_last_of_twelve(self):
        self.assert_answers(chain([0] * 11 + [1]), [(best(), [0, 2048, 1])])


class AllTest(QuestionCase):
    def test_twelve_numbers_always(self):
        self.assert_answers([start(8)], [(every(), [1] + [0] * 12)])
        self.assert_answers(mixed(), [(every(), [6] + padded([85, 73, 133, 127, 81, 217]))])
        self.assert_answers(chain([1] + [0] * 11, 2), [(every(), [12] + [2 * v for v in range(12)])])

    def test_nothing_of_a_dropped_one(self):
        self.assert_answers(chain([1, 0, 0], 2) + [drop()], [(every(), [2] + padded([0, 2]))])

    def test_like_ways_to_each(self):
        told = ask(mixed() + [every()] + [ways(v) for v in range(6)])[6:]
        self.assertEqual(told[0], [6] + padded([each[0] for each in told[1:]]))


class HeavyTest(QuestionCase):
    def test_mixed_tree(self):
        self.assert_answers(mixed(), [(heavy(0), [1, 14]), (heavy(1), [0, 8]), (heavy(2), [0, 17]),
                                      (heavy(3), [1, 20]), (heavy(4), [1, 15]), (heavy(5), [2, 18])])

    def test_of_like_ones_the_least(self):
        self.assert_answers(star([9, 4, 4, 4]), [(heavy(0), [1, 4])])
        self.assert_answers(star([9, 3, 4, 4]), [(heavy(0), [2, 4])])
        self.assert_answers(chain([4, 9, 4]), [(heavy(1), [0, 4])])

    def test_least_is_that_beside_and_not_the_heaviest_alone(self):
        before = [start(0), village(0, 1, 1), village(0, 1, 3), village(1, 1, 2)]
        self.assert_answers(before, [(heavy(0), [1, 3])])

    def test_no_children(self):
        self.assert_answers(star([0] * 12), [(heavy(0), [1, 0]), (heavy(7), [0, 0])])

    def test_none_beside(self):
        self.assert_answers([start(8)], [(heavy(0), [-6])])
        self.assert_answers(chain([8, 8]) + [drop()], [(heavy(0), [-6])])

    def test_a_village_that_is_not_there(self):
        self.assert_answers([start(8)], [(heavy(1), [-2]), (heavy(LARGEST), [-2])])
        self.assert_answers(mixed(), [(heavy(6), [-2]), (heavy(LARGEST), [-2])])


class BranchTest(QuestionCase):
    def test_down_and_up(self):
        self.assert_answers(mixed(), [(branch(0, 1), [14, 26]), (branch(1, 0), [8, 37]), (branch(0, 2), [5, 36]),
                                      (branch(2, 0), [17, 27]), (branch(1, 3), [2, 8]), (branch(3, 1), [20, 55])])

    def test_star_and_chain(self):
        self.assert_answers(star([1] * 12), [(branch(0, 11), [1, 2048]), (branch(11, 0), [11, 2047])])
        self.assert_answers(chain([1000] * 12), [(branch(0, 1), [11000, 4094]), (branch(6, 5), [6000, 63])])

    def test_no_children(self):
        self.assert_answers(chain([0, 0, 0]), [(branch(0, 1), [0, 6]), (branch(2, 1), [0, 3])])

    def test_not_beside_each_other(self):
        self.assert_answers(mixed(), [(branch(v, w), [-33]) for v, w in (
            (0, 3), (3, 0), (3, 4), (1, 2), (0, 5), (5, 0), (4, 5))])

    def test_one_with_itself(self):
        self.assert_answers(mixed(), [(branch(v, v), [-33]) for v in range(6)])
        self.assert_answers([start(1)], [(branch(0, 0), [-33])])

    def test_a_village_that_is_not_there(self):
        self.assert_answers(mixed(), [(branch(v, w), [-2]) for v, w in (
            (6, 0), (0, 6), (6, 6), (LARGEST, 0), (0, LARGEST), (LARGEST, LARGEST))])


if __name__ == "__main__":
    unittest.main()
