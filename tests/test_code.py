"""Promise 1: code."""

import unittest

from tests.asking import GREATEST, ask, code, last, meets, order, pattern, point

EXAMPLE = [0, 0, 0, 1, 4, 0, 1, 2, 2, 0]
INPUT_LINE = [0, 0]


class Taken(unittest.TestCase):
    def test_the_documents_four_lines(self):
        self.assertEqual(last(code(2, EXAMPLE, [3])), [4])

    def test_every_kind_of_line(self):
        lines = [0, 1, 1, -3, 4, 2, 0, 1, 3, 0, 2, 4, 3, 3, 5, 0, 1, 6, 5]
        self.assertEqual(last(code(2, lines, [6, 0])), [7])

    def test_no_inputs(self):
        self.assertEqual(ask(code(0, [1, 5, 1], [0]), pattern()), [[1], [1, 0, 0]])

    def test_twelve_inputs(self):
        self.assertEqual(ask(code(12, [0, 11], [0]), pattern()), [[1], [1, 12, 1, 11]])

    def test_eighty_lines(self):
        self.assertEqual(last(code(1, INPUT_LINE * 80, [79])), [80])

    def test_a_list_of_almost_four_hundred_numbers(self):
        lines = INPUT_LINE + [1, GREATEST, GREATEST] * 79
        self.assertEqual(last(code(1, lines, [79])), [80])

    def test_one_out_and_twelve(self):
        self.assertEqual(last(code(1, INPUT_LINE, [0])), [1])
        self.assertEqual(last(code(1, INPUT_LINE, [0] * 12)), [1])

    def test_first_and_last_line_as_outs(self):
        self.assertEqual(last(code(2, EXAMPLE, [0, 3])), [4])

    def test_constants_at_the_ends_of_their_range(self):
        self.assertEqual(last(code(0, [1, -GREATEST, GREATEST, 1, GREATEST, 1], [1])), [2])

    def test_a_line_may_use_one_line_twice(self):
        self.assertEqual(last(code(1, [0, 0, 2, 0, 0, 4, 1, 1], [2])), [3])

    def test_inputs_need_not_be_used(self):
        self.assertEqual(ask(code(3, [1, 1, 2], [0]), pattern()), [[1], [1, 3, 0]])

    def test_a_second_program_takes_the_place_of_the_first(self):
        told = ask(code(2, EXAMPLE, [3]), code(3, [0, 2], [0, 0]), pattern())
        self.assertEqual(told, [[4], [1], [2, 3, 1, 2, 1, 2]])


class Refused(unittest.TestCase):
    def refused(self, number, n, lines, outs):
        self.assertEqual(last(code(n, lines, outs)), [number], (n, lines, outs))

    def test_range_of_n(self):
        for n in (-1, 13, -GREATEST, GREATEST):
            self.refused(-1, n, INPUT_LINE, [0])

    def test_kinds_there_are_not(self):
        for kind in (-1, 7, -GREATEST, GREATEST):
            self.refused(-2, 2, [0, 0, kind, 0, 0], [0])

    def test_a_line_with_numbers_missing(self):
        for line in ([0], [1], [1, 1], [2], [2, 0], [3, 0], [4, 0], [5, 0], [6]):
            self.refused(-2, 2, [0, 0] + line, [0])

    def test_numbers_below_zero(self):
        for line in ([0, -1], [2, -1, 0], [2, 0, -1], [3, -1, 0], [3, 0, -1], [4, -1, 0],
                     [4, 0, -1], [5, -1, 0], [5, 0, -1], [6, -1], [6, -GREATEST]):
            self.refused(-2, 2, [0, 0] + line, [0])

    def test_denominators_of_constants(self):
        for bottom in (0, -1, -GREATEST):
            self.refused(-2, 2, [1, 1, bottom], [0])

    def test_eighty_one_lines(self):
        self.refused(-7, 1, INPUT_LINE * 81, [0])
        self.refused(-7, 1, INPUT_LINE * 200, [0])

    def test_lines_that_are_not_earlier(self):
        for line in ([2, 1, 0], [2, 0, 1], [3, 1, 0], [3, 0, 1], [4, 1, 0], [4, 0, 1],
                     [5, 1, 0], [5, 0, 1], [6, 1], [6, 2], [6, GREATEST]):
            self.refused(-3, 2, [0, 0] + line + [0, 0, 0, 0], [0])
        self.refused(-3, 2, [6, 0], [0])

    def test_inputs_there_are_not(self):
        self.refused(-3, 2, [0, 2], [0])
        self.refused(-3, 2, [0, 0, 0, GREATEST], [0])
        self.refused(-3, 0, [0, 0], [0])

    def test_how_many_outs(self):
        self.refused(-2, 1, INPUT_LINE, [])
        self.refused(-2, 1, INPUT_LINE, [0] * 13)
        self.refused(-2, 1, INPUT_LINE, [0] * 100)

    def test_outs_that_are_no_lines(self):
        for out in (-1, 4, -GREATEST, GREATEST):
            self.refused(-2, 2, EXAMPLE, [out])
            self.refused(-2, 2, EXAMPLE, [3, out])

    def test_without_lines_no_out_is_a_line(self):
        self.refused(-2, 0, [], [])
        self.refused(-2, 0, [], [0])


class OrderOfRefusals(unittest.TestCase):
    WRONG_FORM = [7]
    WRONG_USE = [6, 90]
    TOO_MANY = INPUT_LINE * 81

    def test_range_ahead_of_all(self):
        self.assertEqual(last(code(13, self.WRONG_FORM, [0])), [-1])
        self.assertEqual(last(code(13, self.TOO_MANY, [0])), [-1])
        self.assertEqual(last(code(13, self.WRONG_USE, [0])), [-1])
        self.assertEqual(last(code(13, INPUT_LINE, [])), [-1])

    def test_form_ahead_of_too_many_and_uses(self):
        self.assertEqual(last(code(1, self.TOO_MANY + self.WRONG_FORM, [0])), [-2])
        self.assertEqual(last(code(1, self.WRONG_USE + self.WRONG_FORM, [0])), [-2])

    def test_too_many_ahead_of_uses_and_outs(self):
        self.assertEqual(last(code(1, self.WRONG_USE + self.TOO_MANY, [0])), [-7])
        self.assertEqual(last(code(1, self.TOO_MANY, [])), [-7])
        self.assertEqual(last(code(1, self.TOO_MANY, [100])), [-7])

    def test_uses_ahead_of_outs(self):
        self.assertEqual(last(code(1, self.WRONG_USE, [])), [-3])
        self.assertEqual(last(code(1, self.WRONG_USE, [5])), [-3])
        self.assertEqual(last(code(1, [0, 1], [0] * 13)), [-3])


class AfterARefusal(unittest.TestCase):
    def test_the_program_is_as_it_was(self):
        refused = [code(13, INPUT_LINE, [0]), code(1, [7], [0]), code(1, INPUT_LINE * 81, [0]),
                   code(1, [0, 1], [0]), code(1, INPUT_LINE, [1]), code(1, INPUT_LINE, [])]
        for wrong in refused:
            told = ask(code(2, EXAMPLE, [3, 1]), wrong, pattern(), meets(0), order(1, 1), point([1, 1, 1, 1]))
            self.assertEqual(told[2:], [[2, 2, 2, 0, 1, 1, 1], [1, 0, 1], [2, 0, 1], [0]], wrong)

    def test_a_new_object_stays_new(self):
        self.assertEqual(ask(code(1, INPUT_LINE, [1]), pattern(), point([])), [[-2], [0, 0], [0]])
