"""Point 5: what lies around a village, and how much there is in all."""

import unittest

from tests.helper import (LARGEST, MOST, QuestionCase, RefusalCase, ask, beside, chain, drop, far, farthest, line, look,
                          many, mixed, nearer, padded, road, star, start, sums, village)


class FarthestTest(QuestionCase, RefusalCase):
    def test_mixed_tree(self):
        self.assert_answers(mixed(), [(farthest(0), [5, 10]), (farthest(1), [5, 12]), (farthest(2), [3, 9]),
                                      (farthest(3), [5, 15]), (farthest(4), [5, 13]), (farthest(5), [3, 15])])

    def test_how_far_and_not_how_many_roads(self):
        before = [start(1), village(0, 9, 1), village(0, 1, 1), village(2, 1, 1), village(3, 1, 1)]
        self.assert_answers(before, [(farthest(0), [1, 9]), (farthest(4), [1, 12]), (farthest(1), [4, 12])])

    def test_of_like_ones_the_least(self):
        self.assert_answers(star([1] * 12, 4), [(farthest(0), [1, 4]), (farthest(1), [2, 8]), (farthest(11), [1, 8])])
        self.assert_answers(chain([1] * 3, 5), [(farthest(1), [0, 5])])

    def test_children_do_not_matter(self):
        self.assert_answers(chain([9, 0, 0]), [(farthest(0), [2, 2])])

    def test_one_alone(self):
        self.assert_answers([start(7)], [(farthest(0), [0, 0])])

    def test_largest(self):
        self.assert_answers(chain([0] * 12, 1000), [(farthest(0), [11, 11000]), (farthest(11), [0, 11000])])

    def test_a_village_that_is_not_there(self):
        for v in (6, 12, LARGEST):
            self.assert_refused(mixed(), farthest(v), -2)
        self.assert_refused([start(1)], farthest(1), -2)


class NearerTest(QuestionCase, RefusalCase):
    def test_nearer_to_the_second(self):
        self.assert_answers(mixed(), [(nearer(0, 1, 4), [1]), (nearer(1, 0, 4), [0]), (nearer(5, 0, 2), [1]),
                                      (nearer(0, 5, 2), [0]), (nearer(3, 5, 2), [1])])

    def test_as_far_from_both(self):
        self.assert_answers(mixed(), [(nearer(1, 5, 2), [0]), (nearer(5, 1, 2), [0])])
        self.assert_answers(star([1] * 4), [(nearer(1, 2, 3), [0]), (nearer(1, 2, 0), [0])])

    def test_one_village_twice_or_three_times(self):
        self.assert_answers(mixed(), [(nearer(1, 1, 4), [0]), (nearer(4, 1, 4), [0]), (nearer(1, 4, 4), [1]),
                                      (nearer(2, 2, 2), [0])])
        self.assert_answers([start(3)], [(nearer(0, 0, 0), [0])])

    def test_by_one_in_length(self):
        before = [start(1), village(0, 999, 1), village(0, 1000, 1)]
        self.assert_answers(before, [(nearer(2, 1, 0), [1]), (nearer(1, 2, 0), [0])])
        self.assert_answers(before + [road(1, 1000)], [(nearer(2, 1, 0), [0]), (nearer(1, 2, 0), [0])])

    def test_like_how_far(self):
        for v in range(6):
            for w in range(6):
                for x in range(6):
                    told = ask(mixed() + [far(x, v), far(x, w), nearer(v, w, x)])[6:]
                    self.assertEqual(told[2], [1 if told[1][0] < told[0][0] else 0])

    def test_a_village_that_is_not_there(self):
        for v in (6, 12, LARGEST):
            self.assert_refused(mixed(), nearer(v, 0, 1), -2)
            self.assert_refused(mixed(), nearer(0, v, 1), -2)
            self.assert_refused(mixed(), nearer(0, 1, v), -2)
            self.assert_refused(mixed(), nearer(v, v, v), -2)
        self.assert_refused([start(1)], nearer(0, 0, 1), -2)


class LineTest(QuestionCase, RefusalCase):
    def test_mixed_tree(self):
        lines = ([0], [1, 0], [2, 0], [3, 1, 0], [4, 1, 0], [5, 2, 0])
        self.assert_answers(mixed(), [(line(way[0]), [len(way)] + padded([v + 1 for v in way])) for way in lines])

    def test_twelve_numbers_always(self):
        self.assert_answers([start(4)], [(line(0), [1, 1] + [0] * 11)])
        self.assert_answers(chain([1] * 12), [(line(11), [12] + list(range(12, 0, -1)))])
        self.assert_answers(star([1] * 12), [(line(11), [2, 12, 1] + [0] * 10)])

    def test_a_village_that_is_not_there(self):
        for v in (6, 12, LARGEST):
            self.assert_refused(mixed(), line(v), -2)
        self.assert_refused([start(1)], line(1), -2)


class BesideTest(QuestionCase, RefusalCase):
    def test_mixed_tree(self):
        self.assert_answers(mixed(), [(beside(0), [2, 6]), (beside(1), [3, 25]), (beside(2), [2, 33]),
                                      (beside(3), [1, 2]), (beside(4), [1, 2]), (beside(5), [1, 4])])

    def test_none(self):
        self.assert_answers([start(4)], [(beside(0), [0, 0])])
        self.assert_answers(chain([4, 4]) + [drop()], [(beside(0), [0, 0])])

    def test_most(self):
        self.assert_answers(star([1] * 12), [(beside(0), [11, 4094]), (beside(11), [1, 1])])

    def test_not_village_0_beside_itself(self):
        self.assert_answers(chain([1] * 12), [(beside(0), [1, 2]), (beside(1), [2, 5]), (beside(11), [1, 1024])])

    def test_a_village_that_is_not_there(self):
        for v in (6, 12, LARGEST):
            self.assert_refused(mixed(), beside(v), -2)
        self.assert_refused([start(1)], beside(1), -2)


class LookTest(QuestionCase, RefusalCase):
    def test_mixed_tree(self):
        self.assert_answers(mixed(), [(look(0), [3, 0, 0]), (look(1), [5, 0, 2]), (look(2), [1, 0, 4]),
                                      (look(3), [2, 1, 3]), (look(4), [7, 1, 1]), (look(5), [4, 2, 6])])

    def test_edges(self):
        before = [start(0), village(0, 1, 0), village(1, 1000, 1000)]
        self.assert_answers(before, [(look(0), [0, 0, 0]), (look(1), [0, 0, 1]), (look(2), [1000, 1, 1000])])

    def test_after_changes(self):
        changes = [many(0, 8), many(5, 9), road(5, 10), drop(), village(4, 11, 12)]
        self.assert_answers(mixed() + changes[:3], [(look(0), [8, 0, 0]), (look(5), [9, 2, 10])])
        self.assert_answers(mixed() + changes[:4], [(look(5), [-2]), (look(4), [7, 1, 1])])
        self.assert_answers(mixed() + changes, [(look(5), [12, 4, 11])])

    def test_the_last_of_twelve(self):
        self.assert_answers(chain([1] * 12, 3), [(look(11), [1, 10, 3])])

    def test_a_village_that_is_not_there(self):
        for v in (6, 12, LARGEST):
            self.assert_refused(mixed(), look(v), -2)
        self.assert_refused([start(1)], look(1), -2)


class SumsTest(QuestionCase):
    def test_mixed_tree(self):
        self.assert_answers(mixed(), [(sums(), [22, 16])])

    def test_one_alone(self):
        self.assert_answers([start(0)], [(sums(), [0, 0])])
        self.assert_answers([start(1000)], [(sums(), [1000, 0])])

    def test_largest(self):
        self.assert_answers(star([1000] * MOST, 1000), [(sums(), [12000, 11000])])

    def test_after_changes(self):
        self.assert_answers(mixed() + [drop()], [(sums(), [18, 10])])
        self.assert_answers(mixed() + [road(1, 7), many(0, 0)], [(sums(), [19, 21])])
        self.assert_answers(mixed() + [start(6)], [(sums(), [6, 0])])


if __name__ == "__main__":
    unittest.main()
