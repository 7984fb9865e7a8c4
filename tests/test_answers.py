"""The interface: how calls and answers lie in their lists, and that nothing is kept or changed."""

import contextlib
import io
import unittest

from sparsetables.tables import answers
from tests.asking import ask, check, code, colours, meets, order, pattern, point

LINES = [0, 0, 0, 1, 4, 0, 1, 2, 2, 0]
SEVERAL = [
    pattern(), code(2, LINES, [3, 1]), point([6, 8, -1, 2]), pattern(), meets(0), meets(1), order(0, 1),
    order(1, 2), colours(0, 0), colours(1, 1), check(0, [0, 1]), check(1, [5, 5]),
]


class Lists(unittest.TestCase):
    def test_the_numbers_as_they_lie(self):
        calls = [0, 2, 10] + LINES + [2, 3, 1, 2, 3, 0, 6, 1, 2, 7, 7, 1, 4, 1, 1, 0, 1, 4, 1, 0]
        told = [1, 4, 7, 2, 2, 2, 0, 1, 1, 1, 3, 1, 0, 1, 3, 0, 0, 1, 1, 0, 3, 2, 0, 1]
        self.assertEqual(answers(calls), told)

    def test_several_calls(self):
        told = [[0, 0], [4], [0], [2, 2, 2, 0, 1, 1, 1], [1, 0, 1], [1, 0, 1], [2, 0, 1], [2, 0, 1],
                [2, 2, 0, 1], [2, 2, 0, 1], [1], [0, 0, 1]]
        self.assertEqual(ask(*SEVERAL), told)

    def test_a_refusal_is_its_number_alone(self):
        calls = code(13, [], []) + code(0, [7], []) + code(0, [0, 0] * 81, []) + code(0, [0, 0], [])
        self.assertEqual(answers(calls + meets(2)), [1, -1, 1, -2, 1, -7, 1, -3, 1, -1])

    def test_behind_a_refusal_the_next_call_follows(self):
        told = ask(code(99, [3, 3, 3], [5, 6]), point([2, 2, 2]), check(7, [1, 2, 3]), order(9, 9), pattern())
        self.assertEqual(told, [[-1], [-2], [-1], [-1], [0, 0]])

    def test_four_hundred_calls(self):
        self.assertEqual(answers([2] * 400), [2, 0, 0] * 400)
        self.assertEqual(answers(code(1, [0, 0], [0]) + [3, 1] * 399), [1, 1] + [1, 0] * 399)

    def test_a_long_list(self):
        lines = [0, 0] + [2, 0, 0] * 79
        calls = (code(1, lines, [0] * 12) + point([1, 1])) * 60
        self.assertEqual(answers(calls), [1, 80, 1, 0] * 60)

    def test_only_whole_numbers_are_told(self):
        told = answers([number for call in SEVERAL for number in call])
        self.assertIs(type(told), list)
        self.assertEqual({type(number) for number in told}, {int})


class NothingKept(unittest.TestCase):
    def test_the_list_is_the_same_afterwards(self):
        calls = [number for call in SEVERAL for number in call]
        before = list(calls)
        answers(calls)
        self.assertEqual(calls, before)

    def test_a_second_time(self):
        calls = [number for call in SEVERAL for number in call]
        first = answers(calls)
        self.assertEqual(answers(calls), first)
        self.assertIsNot(answers(calls), first)

    def test_what_is_given_back_may_be_changed(self):
        first = answers(pattern())
        first.append(5)
        self.assertEqual(answers(pattern()), [2, 0, 0])

    def test_the_object_is_new_each_time(self):
        answers(code(2, LINES, [3]) + point([1, 1, 1, 1]))
        self.assertEqual(ask(pattern(), meets(0), check(0, [])), [[0, 0], [0], [1]])

    def test_nothing_is_printed(self):
        printed = io.StringIO()
        with contextlib.redirect_stdout(printed), contextlib.redirect_stderr(printed):
            ask(*SEVERAL)
        self.assertEqual(printed.getvalue(), "")
