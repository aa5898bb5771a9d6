"""Point 6, and of point 1 what a change is: taking back, and doing again."""

import unittest

from tests.helper import (LARGEST, MOST, QuestionCase, RefusalCase, again, ask, ask_last, back, beside, best, both,
                          branch, chain, drop, every, far, farthest, gain, heavy, large_trees, line, look, many, mixed,
                          nearer, road, star, start, state, state_after, sums, till, toward, two, valley_after, village,
                          ways, without)

# Of each sort of change one that can be made in mixed(), one behind another.
CHANGES = [many(0, 9), village(3, 8, 6), road(1, 7), drop(), many(4, 0), drop(), village(0, 1000, 1000), road(5, 1)]


def counted(how_many):
    """So many changes, the k-th of which leaves k children in village 0."""
    return [many(0, k + 1) for k in range(how_many)]


def children_after(calls):
    return ask_last(calls + [look(0)])[0]


class StateTest(QuestionCase):
    def test_villages_and_changes(self):
        self.assert_answers([start(4)], [(state(), [1, 0, 0])])
        self.assert_answers(mixed(), [(state(), [6, 5, 0])])
        self.assert_answers(mixed() + [back()], [(state(), [5, 4, 1])])
        self.assert_answers(mixed() + [back(), back(), again()], [(state(), [5, 4, 1])])
        self.assert_answers(mixed() + [back()] * 5, [(state(), [1, 0, 5])])

    def test_each_sort_of_change_counts(self):
        for change in (village(0, 1, 1), many(0, 1), road(1, 1), drop()):
            self.assertEqual(state_after(mixed() + [change])[1:], [6, 0])

    def test_a_change_that_leaves_all_alike_counts(self):
        self.assert_answers(mixed() + [many(0, 3), road(1, 2)], [(state(), [6, 7, 0]), (back(), [6]), (back(), [5])])

    def test_most(self):
        self.assert_answers(star([1] * MOST) + counted(20), [(state(), [12, 20, 0])])
        self.assert_answers(star([1] * MOST) + counted(20) + [back()] * 20, [(state(), [12, 0, 20])])


class BackTest(QuestionCase):
    def test_each_sort_of_change(self):
        for made in range(len(CHANGES)):
            before = mixed() + CHANGES[:made]
            after = before + [CHANGES[made], back()]
            self.assertEqual(valley_after(after), valley_after(before))

    def test_the_last_one_first(self):
        for taken in range(len(CHANGES) + 1):
            after = mixed() + CHANGES + [back()] * taken
            self.assertEqual(valley_after(after), valley_after(mixed() + CHANGES[:len(CHANGES) - taken]))

    def test_answers_how_many_can_still_be(self):
        self.assert_answers(mixed(), [(back(), [4]), (back(), [3]), (back(), [2]), (back(), [1]), (back(), [0])])

    def test_twenty_and_no_more(self):
        for made in (20, 21, 22, 40):
            told = ask([start(500)] + counted(made) + [back()] * 21)[made + 1:]
            self.assertEqual(told, [[left] for left in range(19, -1, -1)] + [[-2]])
            self.assertEqual(children_after([start(500)] + counted(made) + [back()] * 21),
                             made - 20 if made > 20 else 500)

    def test_nineteen(self):
        told = ask([start(500)] + counted(19) + [back()] * 20)[20:]
        self.assertEqual(told, [[left] for left in range(18, -1, -1)] + [[-2]])

    def test_it_stays_at_twenty(self):
        self.assertEqual(state_after([start(5)] + counted(25)), [1, 20, 0])
        self.assertEqual(state_after([start(5)] + counted(25) + [back(), many(0, 0)]), [1, 20, 0])
        self.assertEqual(state_after([start(5)] + counted(25) + [back(), back(), many(0, 0)]), [1, 19, 0])

    def test_what_fell_out_of_the_twenty_stays_out(self):
        before = [start(5)] + counted(25) + [back()] * 20
        self.assertEqual(ask(before + [back(), state(), look(0)])[-3:], [[-2], [1, 0, 20], [5, 0, 0]])
        self.assertEqual(ask(before + [again()] * 20 + [back()] * 21)[-1], [-2])
        self.assertEqual(children_after(before + [many(0, 70), back(), back()]), 5)

    def test_none_to_take_back(self):
        self.assertEqual(ask([start(4), back(), state()])[1:], [[-2], [1, 0, 0]])
        self.assertEqual(ask_last(mixed() + [back()] * 6), [-2])
        self.assertEqual(valley_after(mixed() + [back()] * 7), valley_after([start(3)]))
        self.assertEqual(state_after(mixed() + [back()] * 7), [1, 0, 5])

    def test_a_dropped_one_comes_back_whole(self):
        self.assertEqual(ask_last(mixed() + [drop(), look(5)]), [-2])
        self.assertEqual(ask_last(mixed() + [drop(), back(), look(5)]), [4, 2, 6])

    def test_the_place_of_a_twelfth_is_free_again(self):
        self.assertEqual(ask(star([1] * 12) + [village(0, 1, 1), back(), village(2, 4, 6), look(11)])[-4:],
                         [[-28], [10], [11], [6, 2, 4]])


class AgainTest(QuestionCase):
    def test_each_sort_of_change(self):
        for made in range(1, len(CHANGES) + 1):
            before = mixed() + CHANGES[:made]
            self.assertEqual(valley_after(before + [back(), again()]), valley_after(before))

    def test_in_its_order(self):
        for taken in range(len(CHANGES) + 1):
            for done in range(taken + 1):
                after = mixed() + CHANGES + [back()] * taken + [again()] * done
                self.assertEqual(valley_after(after), valley_after(mixed() + CHANGES[:len(CHANGES) - taken + done]))

    def test_answers_how_many_there_still_are(self):
        self.assert_answers(mixed() + [back()] * 3, [(again(), [2]), (again(), [1]), (again(), [0]), (again(), [-2])])

    def test_all_twenty(self):
        before = [start(500)] + counted(23) + [back()] * 20
        self.assertEqual(ask(before + [again()] * 21)[len(before):], [[left] for left in range(19, -1, -1)] + [[-2]])
        for done in range(21):
            self.assertEqual(children_after(before + [again()] * done), 3 + done)
            self.assertEqual(state_after(before + [again()] * done), [1, done, 20 - done])

    def test_to_and_fro(self):
        before = mixed() + CHANGES
        self.assertEqual(valley_after(before + [back(), again()] * 30), valley_after(before))
        self.assertEqual(valley_after(before + ([back()] * 13 + [again()] * 13) * 3), valley_after(before))
        self.assertEqual(state_after(before + [back(), again()] * 30), [6, 13, 0])

    def test_none_to_be_done_again(self):
        self.assert_answers([start(4)], [(again(), [-2]), (state(), [1, 0, 0])])
        self.assert_answers(mixed(), [(again(), [-2]), (state(), [6, 5, 0])])
        self.assertEqual(valley_after(mixed() + [back(), again(), again()]), valley_after(mixed()))

    def test_not_any_more_once_another_change_is_made(self):
        for change in (village(0, 1, 1), many(0, 1), many(0, 3), road(1, 9), drop()):
            before = mixed() + [back(), back(), change]
            self.assertEqual(ask(before + [again(), state()])[-2], [-2])
            self.assertEqual(state_after(before)[1:], [4, 0])
            self.assertEqual(valley_after(before + [again()]), valley_after(mixed()[:-2] + [change]))
            self.assertEqual(valley_after(before + [back()]), valley_after(mixed()[:-2]))

    def test_the_other_change_can_be_taken_back_and_done_again(self):
        before = mixed() + [back(), back(), many(0, 8)]
        self.assert_answers(before, [(back(), [3]), (again(), [0]), (again(), [-2]), (look(0), [8, 0, 0]),
                                     (back(), [3]), (look(0), [3, 0, 0]), (state(), [4, 3, 1])])

    def test_the_same_change_is_another_one(self):
        self.assert_answers([start(1), many(0, 2), many(0, 3), back(), back(), many(0, 2)], [(again(), [-2])])


class NoChangeTest(unittest.TestCase):
    """Neither a refused call nor a question is a change."""

    def before(self):
        return mixed() + [many(0, 1), many(0, 2), back()]

    def assert_no_change(self, call):
        before = self.before()
        self.assertEqual(state_after(before + [call]), [6, 6, 1])
        self.assertEqual(valley_after(before + [call]), valley_after(before))
        self.assertEqual(valley_after(before + [call, again()]), valley_after(before + [again()]))
        self.assertEqual(valley_after(before + [call, back()]), valley_after(before + [back()]))

    def test_refused_calls(self):
        for call in (start(1001), village(6, 1, 1), village(0, 0, 1), village(0, 1001, 1), village(0, 1, 1001),
                     many(6, 1), many(0, 1001), road(6, 1), road(1, 0), road(1, 1001), road(0, 1), ways(LARGEST)):
            self.assertLess(ask_last(self.before() + [call])[0], 0)
            self.assert_no_change(call)

    def test_refused_with_twelve_or_one(self):
        full = star([1] * 12) + [back(), again(), many(0, 2), back()]
        self.assertEqual(ask(full + [village(0, 1, 1), state(), again(), state()])[-4:],
                         [[-28], [12, 11, 1], [0], [12, 12, 0]])
        alone = [start(5), many(0, 6), back()]
        self.assertEqual(ask(alone + [drop(), two(), heavy(0), state(), again(), look(0)])[-6:],
                         [[-33], [-6], [-6], [1, 0, 1], [0], [6, 0, 0]])

    def test_questions(self):
        for call in (far(0, 5), ways(5), best(), every(), heavy(5), branch(0, 1), toward(5), gain(0, 5), two(),
                     both(0, 5), farthest(5), nearer(0, 5, 3), line(5), beside(0), till(5), without(4), look(5), sums(),
                     state()):
            self.assertNotIn(ask_last(self.before() + [call]), ([-2], [-6], [-33]))
            self.assert_no_change(call)

    def test_back_and_again_refused_are_none(self):
        self.assertEqual(state_after([start(5), back(), again()]), [1, 0, 0])
        self.assertEqual(state_after([start(5), many(0, 1), again(), again()]), [1, 1, 0])
        self.assertEqual(state_after([start(5), many(0, 1), back(), back(), back()]), [1, 0, 1])


class StartedAgainTest(RefusalCase):
    def test_nothing_is_left_to_take_back_or_to_do_again(self):
        before = mixed() + [back(), back(), start(7)]
        self.assertEqual(ask(before + [state(), back(), again(), look(0)])[-4:], [[1, 0, 0], [-2], [-2], [7, 0, 0]])
        self.assertEqual(state_after([start(1)] + counted(30) + [start(7)]), [1, 0, 0])

    def test_only_changes_behind_it_are_taken_back(self):
        before = mixed() + [back(), start(7), many(0, 8), many(0, 9)]
        self.assertEqual(ask(before + [state(), back(), back(), back(), look(0)])[-5:],
                         [[1, 2, 0], [1], [0], [-2], [7, 0, 0]])

    def test_is_not_a_change_itself(self):
        self.assertEqual(ask([start(7), start(8), back(), look(0)])[2:], [[-2], [8, 0, 0]])

    def test_refused_all_stays(self):
        for n in (1001, LARGEST):
            self.assert_refused(mixed() + [back(), back()], start(n), -22)
            before = mixed() + [back(), back()]
            self.assertEqual(ask(before + [start(n), state(), again(), again(), look(5)])[-5:],
                             [[-22], [4, 3, 2], [1], [0], [4, 2, 6]])


class WholeValleyTest(unittest.TestCase):
    """Back and again bring back just the valley that was."""

    def test_large_trees(self):
        for before in large_trees(78, 10):
            changes = [many(3, 99), road(7, 5), drop(), drop(), village(4, 1, 1), many(0, 0), road(1, 1000), drop()]
            for taken in range(len(changes) + 1):
                after = before + changes + [back()] * taken
                self.assertEqual(valley_after(after), valley_after(before + changes[:len(changes) - taken]))
                self.assertEqual(valley_after(after + [again()] * taken), valley_after(before + changes))

    def test_down_to_the_start(self):
        self.assertEqual(valley_after(chain([6] * 12) + [back()] * 11), valley_after([start(6)]))
        self.assertEqual(valley_after(chain([6] * 12) + [back()] * 11 + [again()] * 11), valley_after(chain([6] * 12)))


if __name__ == "__main__":
    unittest.main()
