"""Promise 3: pattern."""

import unittest

from tests.asking import ask, code, last, pattern, point


class Pattern(unittest.TestCase):
    def test_a_new_object(self):
        self.assertEqual(ask(pattern()), [[0, 0]])

    def test_the_documents_four_lines(self):
        lines = [0, 0, 0, 1, 4, 0, 1, 2, 2, 0]
        self.assertEqual(last(code(2, lines, [0, 1, 2, 3]), pattern()), [4, 2, 1, 0, 1, 1, 2, 0, 1, 2, 0, 1])

    def test_each_kind_of_line(self):
        for kind in (2, 3, 4, 5):
            told = last(code(3, [0, 2, 0, 0, kind, 0, 1, kind, 1, 0], [2, 3]), pattern())
            self.assertEqual(told, [2, 3, 2, 0, 2, 2, 0, 2], kind)
        self.assertEqual(last(code(3, [0, 1, 6, 0], [1]), pattern()), [1, 3, 1, 1])
        self.assertEqual(last(code(3, [1, 1, 1], [0]), pattern()), [1, 3, 0])

    def test_through_many_lines(self):
        lines = [0, 0, 1, 2, 1, 2, 0, 1, 6, 2, 0, 2, 4, 3, 4, 5, 1, 5]
        self.assertEqual(last(code(3, lines, [6, 3]), pattern()), [2, 3, 2, 0, 2, 1, 0])

    def test_only_one_of_two_lines_hangs(self):
        lines = [0, 1, 1, 7, 1, 3, 0, 1, 3, 1, 0, 2, 1, 1]
        self.assertEqual(last(code(2, lines, [2, 3, 4]), pattern()), [3, 2, 1, 1, 1, 1, 0])

    def test_what_comes_to_nought_hangs_all_the_same(self):
        lines = [0, 0, 3, 0, 0, 1, 0, 1, 4, 0, 2]
        self.assertEqual(last(code(1, lines, [1, 3]), pattern()), [2, 1, 1, 0, 1, 0])

    def test_the_same_line_told_twice(self):
        self.assertEqual(last(code(2, [0, 1, 0, 0], [1, 0, 1]), pattern()), [3, 2, 1, 0, 1, 1, 1, 0])

    def test_an_input_told_by_two_lines(self):
        self.assertEqual(last(code(2, [0, 1, 0, 1, 2, 0, 1], [2]), pattern()), [1, 2, 1, 1])

    def test_twelve_rows_and_columns(self):
        lines = [0, 11]
        for k in range(11):
            lines += [0, 10 - k, 2, 2 * k, 2 * k + 1]
        expected = [12, 12]
        for row in range(12):
            expected += [row + 1] + list(range(11 - row, 12))
        self.assertEqual(last(code(12, lines, range(0, 23, 2)), pattern()), expected)

    def test_the_point_changes_nothing(self):
        told = ask(code(1, [0, 0, 4, 0, 0], [1]), point([0, 1]), pattern())
        self.assertEqual(told[2], [1, 1, 1, 0])
