"""Points 1 and 2: the start, and the calls that change the valley."""

import unittest

from tests.helper import (LARGEST, RefusalCase, ask, ask_last, branch, chain, drop, every, far, heavy, many, mixed,
                          padded, road, star, start, survey, toward, valley_after, village, ways)


class StartTest(RefusalCase):
    def test_edges_of_many(self):
        for n in (0, 1, 999, 1000):
            self.assertEqual(ask([start(n)]), [[0]])
        for n in (1001, 1002, LARGEST):
            self.assertEqual(ask([start(n)]), [[-22]])

    def test_one_village_with_so_many_children(self):
        self.assertEqual(ask([start(7), every(), village(0, 3, 0), ways(1)])[1:], [[1] + padded([0]), [1], [21]])

    def test_started_again_all_is_new(self):
        self.assertEqual(ask_last(mixed() + [start(9)]), [0])
        self.assertEqual(valley_after(mixed() + [start(9)]), valley_after([start(9)]))
        self.assertEqual(valley_after(mixed() + [start(3)] + mixed()[1:]), valley_after(mixed()))

    def test_started_again_and_refused_all_stays(self):
        self.assert_refused(mixed(), start(1001), -22)
        self.assert_refused(mixed(), start(LARGEST), -22)

    def test_refused_ahead_of_the_first_start(self):
        calls = [start(1001), start(LARGEST), start(4), village(0, 2, 1), ways(1)]
        self.assertEqual(ask(calls), [[-22], [-22], [0], [1], [8]])


class VillageTest(RefusalCase):
    def test_numbers_go_up(self):
        self.assertEqual(ask(mixed()), [[0], [1], [2], [3], [4], [5]])

    def test_road_goes_to_up(self):
        self.assertEqual(ask_last(mixed() + [far(4, 1)]), [1, 1])
        self.assertEqual(ask_last(mixed() + [far(5, 2)]), [6, 2])
        self.assertEqual(ask_last(mixed() + [branch(2, 5)]), [4, 32])

    def test_up_may_be_the_last_one_alone(self):
        for there in (1, 2, 5, 11):
            before = chain([1] * there)
            self.assertEqual(ask_last(before + [village(there - 1, 1, 1)]), [there])
            for up in (there, there + 1, LARGEST):
                self.assert_refused(before, village(up, 1, 1), -2)

    def test_edges_of_far(self):
        for n in (1, 2, 1000):
            self.assertEqual(ask([start(1), village(0, n, 1), far(1, 0)])[1:], [[1], [n, 0]])
        for n in (0, 1001, LARGEST):
            self.assert_refused(mixed(), village(0, n, 1), -22)

    def test_edges_of_many(self):
        for n in (0, 1, 1000):
            self.assertEqual(ask([start(1), village(0, 1, n), heavy(0)])[1:], [[1], [1, n]])
        for n in (1001, LARGEST):
            self.assert_refused(mixed(), village(0, 1, n), -22)

    def test_far_and_many_both_wrong(self):
        self.assert_refused(mixed(), village(0, 0, 1001), -22)

    def test_twelve_at_most(self):
        self.assertEqual(ask_last(star([1] * 12)), [11])
        for before in (star([1] * 12), chain([1] * 12)):
            self.assert_refused(before, village(0, 1, 1), -28)
            self.assert_refused(before, village(11, 1000, 1000), -28)

    def test_told_first_is_answered(self):
        self.assert_refused(star([1] * 12), village(12, 0, 1001), -2)
        self.assert_refused(star([1] * 12), village(12, 1, 1), -2)
        self.assert_refused(star([1] * 12), village(0, 0, 1), -22)
        self.assert_refused(star([1] * 12), village(0, 1, 1001), -22)
        self.assert_refused(mixed(), village(6, 0, 1), -2)
        self.assert_refused(mixed(), village(6, 1, 1001), -2)


class ManyTest(RefusalCase):
    def test_answers_how_many_it_had(self):
        calls = [start(3), village(0, 2, 5), many(0, 8), many(0, 0), many(1, 1000), many(1, 1000), many(1, 6)]
        self.assertEqual(ask(calls)[2:], [[3], [8], [5], [1000], [1000]])

    def test_only_the_children_of_that_one_change(self):
        after = mixed() + [many(4, 9)]
        self.assertEqual(valley_after(after), valley_after(mixed()[:4] + [village(1, 1, 9)] + mixed()[5:]))
        self.assertEqual(valley_after(mixed() + [many(0, 10)]), valley_after([start(10)] + mixed()[1:]))

    def test_edges_of_n(self):
        for n in (0, 1, 1000):
            self.assertEqual(ask(mixed() + [many(2, n), many(2, 0)])[-2:], [[1], [n]])
        for n in (1001, LARGEST):
            self.assert_refused(mixed(), many(2, n), -22)

    def test_a_village_that_is_not_there(self):
        for v in (6, 12, LARGEST):
            self.assert_refused(mixed(), many(v, 1), -2)
            self.assert_refused(mixed(), many(v, 1001), -2)


class RoadTest(RefusalCase):
    def test_answers_how_long_it_was(self):
        calls = [start(3), village(0, 2, 5), road(1, 1000), road(1, 1), road(1, 1), road(1, 7), far(0, 1)]
        self.assertEqual(ask(calls)[2:], [[2], [1000], [1], [1], [7, 0]])

    def test_only_the_road_of_that_one_changes(self):
        after = mixed() + [road(1, 20)]
        self.assertEqual(valley_after(after), valley_after(mixed()[:1] + [village(0, 20, 5)] + mixed()[2:]))

    def test_edges_of_n(self):
        for n in (1, 2, 1000):
            self.assertEqual(ask(mixed() + [road(5, n), far(5, 2)])[-2:], [[6], [n, 2]])
        for n in (0, 1001, LARGEST):
            self.assert_refused(mixed(), road(5, n), -22)

    def test_village_0_has_none(self):
        for before in (mixed(), [start(1)]):
            for n in (1, 1000):
                self.assert_refused(before, road(0, n), -33)
            for n in (0, 1001):
                self.assert_refused(before, road(0, n), -22)

    def test_a_village_that_is_not_there(self):
        for v in (6, 12, LARGEST):
            self.assert_refused(mixed(), road(v, 1), -2)
            self.assert_refused(mixed(), road(v, 0), -2)
        self.assert_refused([start(1)], road(1, 1001), -2)


class DropTest(RefusalCase):
    def test_answers_how_many_there_are(self):
        self.assertEqual(ask(mixed() + [drop()] * 6)[6:], [[5], [4], [3], [2], [1], [-33]])

    def test_the_last_one_goes(self):
        self.assertEqual(valley_after(mixed() + [drop()]), valley_after(mixed()[:-1]))
        self.assertEqual(valley_after(mixed() + [drop(), drop()]), valley_after(mixed()[:-2]))
        self.assertEqual(ask_last(mixed() + [drop(), toward(5)]), [-2])

    def test_its_place_can_be_taken_anew(self):
        self.assertEqual(ask(star([1] * 12) + [drop(), village(3, 9, 5), far(11, 3)])[-3:], [[11], [11], [9, 3]])

    def test_refused_with_village_0_alone(self):
        self.assert_refused([start(5)], drop(), -33)
        self.assert_refused(mixed() + [start(5)], drop(), -33)


class SurveyTest(unittest.TestCase):
    """The tests above lean on it: two valleys that differ must look different."""

    def test_tells_valleys_apart(self):
        others = [mixed()[:-1], mixed() + [many(5, 5)], mixed() + [road(5, 5)], mixed() + [many(0, 2)],
                  mixed()[:-1] + [village(1, 6, 4)], mixed() + [village(0, 1, 0)]]
        for other in others:
            self.assertNotEqual(valley_after(other), valley_after(mixed()))

    def test_fits_in_a_line(self):
        self.assertLess(len(survey()) + 20, 1000)


if __name__ == "__main__":
    unittest.main()
