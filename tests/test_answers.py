"""The interface: how calls and answers lie in their lists, and that nothing is kept or changed."""

import contextlib
import io
import unittest

from sparsetables.tables import answers
from tests.asking import apart, ask, check, code, colours, dense, least, meets, order, packed, pattern, plan, point
from tests.asking import table

# x, y, x y, and x y + x, here at 3/4 and -1/2.
LINES = [0, 0, 0, 1, 4, 0, 1, 2, 2, 0]
SEVERAL = [
    pattern(), code(2, LINES, [3, 1]), point([6, 8, -1, 2]), pattern(), meets(0), meets(1), order(0, 1),
    order(1, 2), colours(0, 0), colours(1, 1), check(0, [0, 1]), check(1, [5, 5]), least(0), plan(), dense(),
    packed(1, 2), table(0, 1), apart([99, 3]),
]
REFUSED = [
    code(13, [], []), code(0, [7], []), code(0, [0, 0] * 81, []), code(0, [0, 0], []), meets(2), dense(),
    point([]), apart([0]), code(0, [1, 0, 1, 5, 0, 0], [1]), point([]), packed(0, 0),
]


class Watched(list):
    """A list that can be read, but not changed."""

    def changed(self, *given, **named):
        raise AssertionError("what is handed in was changed")

    __setitem__ = __delitem__ = __iadd__ = __imul__ = append = clear = extend = insert = pop = remove = changed
    reverse = sort = changed


def in_one_list(calls):
    return [number for call in calls for number in call]


class Lists(unittest.TestCase):
    def test_the_numbers_as_they_lie(self):
        calls = [0, 2, 10] + LINES + [2, 3, 1, 2, 3, 0, 6, 1, 2, 7, 7, 1, 4, 1, 1, 0, 1, 4, 1, 0]
        told = [1, 4, 7, 2, 2, 2, 0, 1, 1, 1, 3, 1, 0, 1, 3, 0, 0, 1, 1, 0, 3, 2, 0, 1]
        self.assertEqual(answers(calls), told)

    def test_the_numbers_of_the_later_calls_as_they_lie(self):
        calls = [1, 0, 7, 1, 8, 9, 10, 0, 1, 11, 1, 2, 12, 0, 12, 2, 5, 5]
        told = [1, 0, 1, 0, 3, 0, 0, 0, 2, 0, 0, 2, 0, 0, 2, 0, 0, 2, 0, 0, 1, -2]
        self.assertEqual(answers(calls), told)

    def test_all_thirteen_calls(self):
        self.assertEqual({call[0] for call in SEVERAL}, set(range(13)))
        rows = [2, 2, 1, 2, 3, 4, 0, 1, 1, 1]
        told = [[0, 0], [4], [0], [2, 2, 2, 0, 1, 1, 1], [1, 0, 1], [1, 0, 1], [2, 0, 1], [2, 0, 1],
                [2, 2, 0, 1], [2, 2, 0, 1], [1], [0, 0, 1], [2], [0, 0, 2], rows, rows, rows, rows]
        self.assertEqual(ask(*SEVERAL), told)

    def test_a_refusal_is_its_number_alone(self):
        told = [1, -1, 1, -2, 1, -7, 1, -3, 1, -1, 1, -4, 1, 0, 1, -2, 1, 2, 3, 1, 1, 1, 1, -5]
        self.assertEqual(answers(in_one_list(REFUSED)), told)

    def test_behind_a_refusal_the_next_call_follows(self):
        told = ask(code(99, [3, 3, 3], [5, 6]), point([2, 2, 2]), check(7, [1, 2, 3]), order(9, 9), pattern())
        self.assertEqual(told, [[-1], [-2], [-1], [-1], [0, 0]])
        told = ask(least(9), packed(9, 8), table(8, 9), apart([12, 11, 10]), dense(), plan())
        self.assertEqual(told, [[-1], [-1], [-1], [-2], [-4], [0, 0, 0]])

    def test_four_hundred_calls(self):
        self.assertEqual(answers([2] * 400), [2, 0, 0] * 400)
        self.assertEqual(answers(code(1, [0, 0], [0]) + [3, 1] * 399), [1, 1] + [1, 0] * 399)

    def test_a_long_list(self):
        lines = [0, 0] + [2, 0, 0] * 79
        calls = (code(1, lines, [0] * 12) + point([1, 1])) * 60
        self.assertEqual(answers(calls), [1, 80, 1, 0] * 60)

    def test_many_tables(self):
        lines = in_one_list([(0, k) for k in range(12)] + [(2, k, k + 1) for k in range(68)])
        calls = code(12, lines, list(range(68, 80))) + point([1, 2] * 12) + [9] * 398
        told = answers(calls)
        self.assertEqual(len(told), 4 + 398 * (1 + 2 + 2 * 144))
        self.assertEqual(told[4 + 397 * 291:], told[4:4 + 291])

    def test_only_whole_numbers_are_told(self):
        told = answers(in_one_list(SEVERAL + REFUSED))
        self.assertIs(type(told), list)
        self.assertEqual({type(number) for number in told}, {int})


class NothingKept(unittest.TestCase):
    def test_the_list_is_the_same_afterwards(self):
        calls = in_one_list(SEVERAL + REFUSED)
        before = list(calls)
        answers(calls)
        self.assertEqual(calls, before)

    def test_the_list_is_not_changed_for_a_while_either(self):
        calls = in_one_list(SEVERAL + REFUSED)
        self.assertEqual(answers(Watched(calls)), answers(calls))

    def test_a_second_time(self):
        calls = in_one_list(SEVERAL + REFUSED)
        first = answers(calls)
        self.assertEqual(answers(calls), first)
        self.assertIsNot(answers(calls), first)

    def test_what_is_given_back_may_be_changed(self):
        first = answers(pattern())
        first.append(5)
        self.assertEqual(answers(pattern()), [2, 0, 0])

    def test_the_object_is_new_each_time(self):
        answers(code(2, LINES, [3]) + point([1, 1, 1, 1]))
        self.assertEqual(ask(pattern(), meets(0), check(0, []), dense()), [[0, 0], [0], [1], [-4]])

    def test_nothing_is_printed(self):
        printed = io.StringIO()
        with contextlib.redirect_stdout(printed), contextlib.redirect_stderr(printed):
            ask(*SEVERAL, *REFUSED)
        self.assertEqual(printed.getvalue(), "")
