"""Of point 4: two schools."""

import unittest

from tests.helper import (LARGEST, QuestionCase, RefusalCase, ask, ask_last, both, chain, drop, many, mixed, road, star,
                          start, two, village)


class TwoTest(QuestionCase, RefusalCase):
    def test_mixed_tree(self):
        self.assert_answers(mixed(), [(two(), [25, 1, 5])])

    def test_two_villages(self):
        self.assert_answers(chain([5, 6], 3), [(two(), [0, 0, 1])])

    def test_the_lesser_first(self):
        self.assert_answers(chain([0, 7, 0, 0, 9], 2), [(two(), [0, 1, 4])])
        self.assert_answers(chain([0, 9, 0, 0, 7], 2), [(two(), [0, 1, 4])])

    def test_the_best_place_need_not_be_among_them(self):
        # The best place of this chain is 2, the middle one.
        self.assert_answers(chain([5, 5, 1, 5, 5]), [(two(), [11, 0, 3])])
        self.assert_answers(chain([4, 5, 1, 5, 4]), [(two(), [9, 1, 3])])

    def test_each_child_goes_to_the_nearer(self):
        # Over the longer road nobody goes, on whichever side of 1 it is.
        self.assert_answers([start(2), village(0, 5, 3), village(1, 9, 4)], [(two(), [10, 1, 2])])
        self.assert_answers([start(2), village(0, 9, 3), village(1, 5, 4)], [(two(), [15, 0, 2])])

    def test_of_like_ones_the_least_first_one(self):
        self.assert_answers(chain([1, 1, 1]), [(two(), [1, 0, 1])])
        self.assert_answers(chain([0, 0, 5], 4), [(two(), [0, 0, 2])])
        self.assert_answers(star([0, 1, 1, 1]), [(two(), [2, 0, 1])])

    def test_then_the_least_second_one(self):
        self.assert_answers(chain([5, 0, 0], 4), [(two(), [0, 0, 1])])
        self.assert_answers(star([9, 1, 1, 1]), [(two(), [2, 0, 1])])
        self.assert_answers(star([9, 1, 2, 2]), [(two(), [3, 0, 2])])

    def test_the_least_first_one_comes_before_the_least_second_one(self):
        before = [start(1), village(0, 2, 2), village(0, 3, 2), village(1, 4, 2)]
        self.assert_answers(before, [(both(0, 3), [10]), (both(1, 2), [10]), (two(), [10, 0, 3])])
        self.assert_answers(chain([2, 2, 2, 2]), [(both(0, 1), [6]), (both(0, 2), [4]), (both(0, 3), [4]),
                                                  (both(1, 2), [4]), (both(1, 3), [4]), (two(), [4, 0, 2])])

    def test_no_children(self):
        self.assert_answers(star([0] * 12), [(two(), [0, 0, 1])])
        self.assert_answers(chain([0] * 12, 1000), [(two(), [0, 0, 1])])

    def test_the_last_two_of_twelve(self):
        self.assert_answers(chain([0] * 10 + [1, 1]), [(two(), [0, 10, 11])])
        self.assert_answers(star([0] * 10 + [1, 1]), [(two(), [0, 10, 11])])

    def test_largest(self):
        self.assert_answers(chain([1000] * 12, 1000), [(two(), [18000000, 2, 8])])

    def test_after_changes(self):
        self.assert_answers(mixed() + [many(5, 0)], [(two(), [17, 0, 1]), (both(0, 4), [17])])
        self.assert_answers(mixed() + [road(3, 1000)], [(two(), [67, 1, 3])])

    def test_only_village_0(self):
        self.assert_refused([start(8)], two(), -6)
        self.assert_refused([start(0)], two(), -6)
        self.assert_refused(chain([8, 8]) + [drop()], two(), -6)
        self.assert_refused(mixed() + [start(3)], two(), -6)


class BothTest(QuestionCase, RefusalCase):
    def test_mixed_tree(self):
        self.assert_answers(mixed(), [(both(1, 5), [25]), (both(5, 1), [25]), (both(4, 5), [28]), (both(0, 5), [45]),
                                      (both(1, 2), [43])])

    def test_as_near_to_the_one_as_to_the_other(self):
        self.assert_answers(chain([1, 7, 1], 4), [(both(0, 2), [28])])

    def test_one_beyond_the_other(self):
        self.assert_answers(chain([3, 2, 1], 4), [(both(0, 1), [4]), (both(1, 2), [12]), (both(2, 1), [12])])

    def test_one_with_itself(self):
        self.assert_answers(mixed(), [(both(0, 0), [85]), (both(1, 1), [73]), (both(5, 5), [217])])
        self.assert_answers([start(9)], [(both(0, 0), [0])])

    def test_no_children(self):
        self.assert_answers(chain([0, 0, 0], 9), [(both(0, 2), [0]), (both(1, 1), [0])])

    def test_largest(self):
        self.assert_answers(chain([1000] * 12, 1000), [(both(0, 0), [66000000]), (both(0, 11), [30000000])])

    def test_no_worse_than_each_alone(self):
        told = ask(mixed() + [both(v, w) for v in range(6) for w in range(6)])[6:]
        alone = [85, 73, 133, 127, 81, 217]
        for v in range(6):
            for w in range(6):
                self.assertLessEqual(told[6 * v + w][0], min(alone[v], alone[w]))

    def test_a_village_that_is_not_there(self):
        for v, w in ((6, 0), (0, 6), (6, 6), (LARGEST, 0), (0, LARGEST), (LARGEST, LARGEST)):
            self.assert_refused(mixed(), both(v, w), -2)
        self.assert_refused([start(1)], both(0, 1), -2)
        self.assertEqual(ask_last(mixed() + [drop(), both(0, 5)]), [-2])


if __name__ == "__main__":
    unittest.main()
