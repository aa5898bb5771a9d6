"""The interface: how calls stand in the list, how answers do, and what is left alone."""

import contextlib
import io
import unittest

from schoolplaces.valley import answers
from tests.helper import (again, ask, back, beside, best, both, branch, chain, drop, every, far, farthest, gain, heavy,
                          joined, line, look, many, mixed, nearer, road, start, state, sums, survey, till, toward, two,
                          village, ways, without)


class Untouchable(list):
    """A list that may be read alone."""

    def refuse(self, *numbers, **named):
        raise AssertionError("what is handed in is changed")

    append = clear = extend = insert = pop = remove = reverse = sort = refuse
    __setitem__ = __delitem__ = __iadd__ = __imul__ = refuse


def each_call():
    """Calls of every sort, refused ones among them."""
    return [start(1001)] + mixed() + [
        many(0, 4), many(6, 0), road(1, 3), road(0, 3), drop(), far(0, 4), far(0, 5), ways(2), ways(5), best(),
        every(), heavy(0), heavy(9), branch(0, 1), branch(0, 4), toward(3), toward(8), gain(1, 0), gain(8, 0),
        two(), both(1, 3), both(1, 5), farthest(2), farthest(5), nearer(0, 1, 3), nearer(0, 1, 5), line(3), line(5),
        beside(1), beside(5), till(0), till(5), without(4), without(5), look(4), look(5), sums(), back(), state(),
        again(), again(), state(), back(), start(2000), village(0, 0, 0), again(), start(6), heavy(0), drop(), two(),
        back(), again(), state()]


class AnswersTest(unittest.TestCase):
    def test_as_the_list_stands(self):
        calls = [0, 3, 1, 0, 2, 5, 2, 0, 4, 3, 1, 6, 4]
        self.assertEqual(answers(calls), [1, 0, 1, 1, 1, 3, 1, 2, 1, 1])
        calls = [0, 4, 1, 0, 6, 5, 5, 1, 0, 6, 0, 7, 8, 9, 0, 10, 0, 1, 11, 0, 12, 1, 0]
        self.assertEqual(answers(calls), [
            1, 0, 1, 1, 2, 6, 0, 1, 30, 3, 24, 2, 1, 13, 2, 30, 24, 0, 0, 0, 0, 0, 0, 0, 0, 0, 0,
            2, 1, 5, 2, 5, 2, 13, 1, 1, 2, 0, 0, 0, 0, 0, 0, 0, 0, 0, 0, 1, -6])

    def test_as_the_list_stands_from_two_on(self):
        calls = [0, 4, 1, 0, 6, 5, 1, 1, 3, 2, 13, 14, 0, 1, 15, 2, 16, 0, 1, 2, 17, 2, 18, 1, 19, 2, 20, 1, 21, 2, 22]
        self.assertEqual(answers(calls), [
            1, 0, 1, 1, 1, 2, 3, 6, 0, 1, 1, 6, 2, 0, 9, 1, 1, 13, 3, 3, 2, 1, 0, 0, 0, 0, 0, 0, 0, 0, 0,
            2, 2, 5, 1, 7, 2, 18, 1, 3, 2, 1, 3, 2, 11, 9])
        calls = [0, 4, 1, 0, 6, 5, 2, 1, 7, 25, 23, 25, 24, 24, 23, 23, 23, 25]
        self.assertEqual(answers(calls), [
            1, 0, 1, 1, 1, 5, 3, 2, 2, 0, 1, 1, 3, 2, 1, 1, 1, 0, 1, -2, 1, 1, 1, 0, 1, -2, 3, 1, 0, 2])

    def test_how_many_numbers_each_call_answers(self):
        calls = mixed() + [
            many(0, 1), road(1, 1), drop(), far(0, 1), ways(0), best(), every(), heavy(0), branch(0, 1), toward(0),
            gain(0, 1), two(), both(0, 1), farthest(0), nearer(0, 1, 2), line(0), beside(0), till(0), without(0),
            look(0), sums(), back(), again(), state()]
        self.assertEqual([len(told) for told in ask(calls)], [1] * 6 + [
            1, 1, 1, 2, 1, 3, 13, 2, 2, 13, 1, 3, 1, 2, 1, 13, 2, 1, 2, 3, 2, 1, 1, 3])

    def test_a_refusal_stands_alone(self):
        calls = [0, 4, 5, 0, 1, 6, 1, 9, 0, 9, 1, 10, 0, 0, 10, 0, 1, 11, 1, 12, 0, 1, 4, 0, 1001]
        self.assertEqual(answers(calls), [
            1, 0, 1, -2, 1, -2, 1, -6, 1, -2, 1, -33, 1, -2, 1, -2, 1, -2, 1, -33, 1, -22])
        calls = [0, 4, 13, 14, 0, 1, 15, 1, 16, 0, 0, 1, 17, 1, 18, 1, 19, 1, 20, 1, 21, 1, 23, 24]
        self.assertEqual(answers(calls), [1, 0, 1, -6] + [1, -2] * 10)

    def test_only_whole_numbers(self):
        told = answers(joined(each_call()))
        self.assertIs(type(told), list)
        self.assertEqual({type(number) for number in told}, {int})

    def test_what_is_handed_in_stays(self):
        calls = joined(each_call())
        copy = list(calls)
        told = answers(calls)
        self.assertEqual(calls, copy)
        self.assertIsNot(told, calls)
        self.assertEqual(answers(Untouchable(calls)), told)

    def test_nothing_is_kept(self):
        calls = joined(each_call())
        first = answers(calls)
        kept = list(first)
        answers(joined(chain([1000] * 12, 1000)))
        self.assertEqual(answers(calls), kept)
        first.append(5)
        self.assertEqual(answers(calls), kept)
        self.assertEqual(answers([0, 5, 8]), [1, 0, 13, 1] + [0] * 12)
        self.assertEqual(answers([0, 5, 25, 23, 24]), [1, 0, 3, 1, 0, 0, 1, -2, 1, -2])

    def test_prints_nothing(self):
        printed = io.StringIO()
        with contextlib.redirect_stdout(printed), contextlib.redirect_stderr(printed):
            answers(joined(each_call()))
        self.assertEqual(printed.getvalue(), "")

    def test_a_thousand_calls(self):
        calls = chain([1000] * 12, 1000) + survey()
        calls = calls + [toward(0)] * (1000 - len(calls))
        self.assertEqual(len(calls), 1000)
        self.assertLessEqual(len(joined(calls)), 6000)
        self.assertEqual(answers(joined(calls))[-14:], [13, 5, 1, 2, 3, 4, 5, 6] + [0] * 6)


if __name__ == "__main__":
    unittest.main()
