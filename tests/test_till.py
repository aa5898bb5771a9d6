"""Of point 4: how many children more till a village is best, and the best places without a village's children."""

import unittest

from tests.helper import (LARGEST, QuestionCase, RefusalCase, ask, best, chain, drop, look, many, mixed, road, star,
                          start, till, village, without)


class TillTest(QuestionCase, RefusalCase):
    def test_mixed_tree(self):
        self.assert_answers(mixed(), [(till(0), [6]), (till(1), [0]), (till(2), [12]), (till(3), [18]),
                                      (till(4), [8]), (till(5), [14])])

    def test_each_best_place_needs_none(self):
        self.assert_answers(chain([5, 0, 0, 5], 2), [(till(v), [0]) for v in range(4)])
        self.assert_answers(star([0] * 12), [(till(v), [0]) for v in range(12)])

    def test_one_alone(self):
        self.assert_answers([start(0)], [(till(0), [0])])
        self.assert_answers([start(1000)], [(till(0), [0])])

    def test_just_half_is_enough(self):
        self.assert_answers(chain([5, 5]), [(till(0), [0]), (till(1), [0])])
        self.assert_answers(chain([5, 6]), [(till(0), [1]), (till(1), [0])])
        self.assert_answers(chain([5, 0, 6]), [(till(0), [1]), (till(1), [1]), (till(2), [0])])

    def test_lengths_do_not_matter(self):
        for length in (1, 2, 1000):
            self.assert_answers(mixed() + [road(5, length), road(1, length)], [(till(0), [6]), (till(5), [14])])

    def test_may_be_more_than_a_village_can_have(self):
        self.assert_answers(chain([0] + [1000] * 11, 1000), [(till(0), [11000]), (till(1), [9000]), (till(11), [9000])])

    def test_is_not_a_change(self):
        self.assert_answers(mixed(), [(till(5), [14]), (look(5), [4, 2, 6]), (best(), [73, 2, 1])])

    def test_a_village_that_is_not_there(self):
        for v in (6, 12, LARGEST):
            self.assert_refused(mixed(), till(v), -2)
        self.assert_refused([start(1)], till(1), -2)
        self.assert_refused(mixed() + [drop()], till(5), -2)


class WithoutTest(QuestionCase, RefusalCase):
    def test_mixed_tree(self):
        self.assert_answers(mixed(), [(without(0), [67, 2]), (without(1), [73, 2]), (without(4), [64, 1]),
                                      (without(5), [25, 2])])

    def test_more_best_places(self):
        self.assert_answers(chain([3, 4, 3]), [(without(1), [6, 7]), (without(0), [3, 2])])
        self.assert_answers(chain([3, 2, 5, 0]), [(without(3), [8, 6]), (without(0), [2, 4])])

    def test_the_village_itself_may_be_best(self):
        self.assert_answers(star([9, 2, 2, 2], 3), [(without(0), [18, 1])])

    def test_none_left(self):
        self.assert_answers([start(8)], [(without(0), [0, 1])])
        self.assert_answers(star([0, 0, 0, 7]), [(without(3), [0, 15])])
        self.assert_answers(chain([0] * 11 + [1000], 1000), [(without(11), [0, 4095]), (without(0), [0, 2048])])

    def test_one_without_children(self):
        self.assert_answers(mixed() + [many(5, 0)], [(without(5), [25, 2]), (best(), [25, 2, 1])])

    def test_like_best_after_many(self):
        for v in range(6):
            told = ask(mixed() + [without(v), many(v, 0), best()])
            self.assertEqual(told[-3], told[-1][:2])

    def test_is_not_a_change(self):
        self.assert_answers(mixed(), [(without(4), [64, 1]), (look(4), [7, 1, 1]), (best(), [73, 2, 1])])

    def test_largest(self):
        before = [start(0)] + [village(0, 1000, 1000)] * 11
        self.assert_answers(before, [(without(11), [10000000, 1]), (without(0), [11000000, 1])])

    def test_a_village_that_is_not_there(self):
        for v in (6, 12, LARGEST):
            self.assert_refused(mixed(), without(v), -2)
        self.assert_refused([start(1)], without(1), -2)
        self.assert_refused(mixed() + [drop()], without(5), -2)


if __name__ == "__main__":
    unittest.main()
