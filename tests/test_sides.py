"""Promises 4 to 7: meets, order, colours, check."""

import unittest

from tests.asking import GREATEST, ask, check, code, colours, last, meets, order, pattern, point, program_with

# Columns that meet: 0-1, 1-2, 2-3, 3-4 (a path), and 5 meets none.
PATH = program_with([[0, 1], [1, 2], [2, 3], [3, 4], [5]], 6)
# Column 3 meets all the others, 1 and 2 meet each other, 0 and 4 meet only 3.
STAR = program_with([[3, 0], [1, 2, 3], [4, 3]], 5)
# The rows that meet: 0-2, 0-3, 1-3.
ROWS = program_with([[0, 1], [2], [0], [1, 2], []], 3)
# A path along which the columns' numbers don't grow: 0-3, 3-1, 1-2.
BENT = program_with([[0, 3], [3, 1], [1, 2]], 4)
# 0-1, 0-2, 0-3 (a star), and the triangle 4-5-6, apart from it.
TRIANGLE = program_with([[0, 1], [0, 2], [0, 3], [4, 5, 6]], 7)


class Meets(unittest.TestCase):
    def test_a_new_object(self):
        self.assertEqual(ask(meets(0), meets(1)), [[0], [0]])

    def test_columns(self):
        self.assertEqual(last(PATH, meets(0)), [4, 0, 1, 1, 2, 2, 3, 3, 4])
        self.assertEqual(last(STAR, meets(0)), [5, 0, 3, 1, 2, 1, 3, 2, 3, 3, 4])

    def test_rows(self):
        self.assertEqual(last(ROWS, meets(1)), [3, 0, 2, 0, 3, 1, 3])
        self.assertEqual(last(STAR, meets(1)), [3, 0, 1, 0, 2, 1, 2])

    def test_none_meet(self):
        apart = program_with([[0], [1], [2]], 3)
        self.assertEqual(ask(apart, meets(0), meets(1))[1:], [[0], [0]])

    def test_a_pair_that_meets_in_two_rows_counts_once(self):
        self.assertEqual(last(program_with([[0, 1], [1, 0]], 2), meets(0)), [1, 0, 1])

    def test_the_same_out_told_twice_meets_itself(self):
        self.assertEqual(ask(code(2, [0, 1], [0, 0]), meets(0), meets(1))[1:], [[0], [1, 0, 1]])

    def test_the_same_constant_told_twice_does_not_meet(self):
        self.assertEqual(last(code(2, [1, 1, 1], [0, 0]), meets(1)), [0])

    def test_no_inputs(self):
        self.assertEqual(ask(code(0, [1, 1, 1], [0, 0]), meets(0), meets(1))[1:], [[0], [0]])

    def test_twelve_that_all_meet(self):
        pairs = [number for a in range(12) for b in range(a + 1, 12) for number in (a, b)]
        self.assertEqual(last(program_with([list(range(12))], 12), meets(0)), [66] + pairs)
        self.assertEqual(last(program_with([[0]] * 12, 1), meets(1)), [66] + pairs)

    def test_sides_there_are_not(self):
        for side in (-1, 2, -GREATEST, GREATEST):
            self.assertEqual(ask(PATH, meets(side))[1:], [[-1]])
            self.assertEqual(ask(meets(side)), [[-1]])


class Order(unittest.TestCase):
    def test_a_new_object(self):
        for side in (0, 1):
            self.assertEqual(ask(order(side, 0), order(side, 1), order(side, 2)), [[0], [0], [0]])

    def test_by_numbers(self):
        self.assertEqual(last(STAR, order(0, 0)), [5, 0, 1, 2, 3, 4])
        self.assertEqual(last(STAR, order(1, 0)), [3, 0, 1, 2])

    def test_most_met_first_and_of_several_the_lesser(self):
        self.assertEqual(last(STAR, order(0, 1)), [5, 3, 1, 2, 0, 4])
        self.assertEqual(last(PATH, order(0, 1)), [6, 1, 2, 3, 0, 4, 5])
        self.assertEqual(last(ROWS, order(1, 1)), [5, 0, 3, 1, 2, 4])

    def test_taken_away_again_and_again(self):
        # Away go 5, then 4, 3, 2, 1, 0: each of them meets one of those still there.
        self.assertEqual(last(PATH, order(0, 2)), [6, 0, 1, 2, 3, 4, 5])
        # Away go 4, 0, 3 (as 1, 2 and 3 meet two each), 2, 1.
        self.assertEqual(last(STAR, order(0, 2)), [5, 1, 2, 3, 0, 4])
        # Away go 4, 2 (as 1 it meets one), 1 (as 0 it meets one by then), 3, 0.
        self.assertEqual(last(ROWS, order(1, 2)), [5, 0, 3, 1, 2, 4])

    def test_only_those_still_there_count(self):
        # Away go 2 (as 0 it meets one), then 1, 3, 0.
        self.assertEqual(last(BENT, order(0, 2)), [4, 0, 3, 1, 2])
        # Away go 3, 2, 1, 0 (it meets none by then), 6, 5, 4.
        self.assertEqual(last(TRIANGLE, order(0, 2)), [7, 4, 5, 6, 0, 1, 2, 3])
        self.assertEqual(last(TRIANGLE, order(0, 1)), [7, 0, 4, 5, 6, 1, 2, 3])

    def test_all_alike(self):
        for rows in ([[0], [1], [2]], [[0, 1, 2]] * 3):
            told = ask(program_with(rows, 3), *[order(side, k) for side in (0, 1) for k in (0, 1, 2)])
            self.assertEqual(told[1:], [[3, 0, 1, 2]] * 6)

    def test_out_of_range(self):
        for wrong in (-1, 3, -GREATEST, GREATEST):
            self.assertEqual(last(PATH, order(0, wrong)), [-1])
            self.assertEqual(last(PATH, order(1, wrong)), [-1])
        for wrong in (-1, 2, -GREATEST, GREATEST):
            self.assertEqual(last(PATH, order(wrong, 0)), [-1])
            self.assertEqual(last(PATH, order(wrong, 5)), [-1])


class Colours(unittest.TestCase):
    def test_a_new_object(self):
        for side in (0, 1):
            self.assertEqual(ask(*[colours(side, k) for k in (0, 1, 2)]), [[0, 0]] * 3)

    def test_no_inputs(self):
        constant = code(0, [1, 1, 1], [0, 0])
        self.assertEqual(ask(constant, colours(0, 0), colours(1, 0))[1:], [[0, 0], [1, 2, 0, 0]])

    def test_columns(self):
        self.assertEqual(last(PATH, colours(0, 0)), [2, 6, 0, 1, 0, 1, 0, 0])
        self.assertEqual(last(STAR, colours(0, 0)), [3, 5, 0, 0, 1, 2, 0])
        self.assertEqual(last(STAR, colours(0, 1)), [3, 5, 1, 1, 2, 0, 1])
        self.assertEqual(last(STAR, colours(0, 2)), [3, 5, 0, 0, 1, 2, 0])

    def test_rows(self):
        self.assertEqual(last(ROWS, colours(1, 0)), [2, 5, 0, 0, 1, 1, 0])
        self.assertEqual(last(ROWS, colours(1, 1)), [2, 5, 0, 0, 1, 1, 0])
        self.assertEqual(last(ROWS, colours(1, 2)), [2, 5, 0, 0, 1, 1, 0])

    def test_the_order_makes_the_difference(self):
        # The path 0-3, 3-1, 1-2 by numbers: 0 and 1 get 0, 2 gets 1, 3 gets 1.
        self.assertEqual(last(BENT, colours(0, 0)), [2, 4, 0, 0, 1, 1])
        # The path 0-2, 2-3, 3-1 by numbers: 0 and 1 get 0, 2 gets 1, 3 gets 2.
        other = program_with([[0, 2], [2, 3], [3, 1]], 4)
        self.assertEqual(last(other, colours(0, 0)), [3, 4, 0, 0, 1, 2])
        self.assertEqual(last(other, colours(0, 1)), [2, 4, 1, 0, 0, 1])
        # Away go 1, 3, 2, 0, so it is coloured along the path.
        self.assertEqual(last(other, colours(0, 2)), [2, 4, 0, 1, 1, 0])

    def test_the_least_number_that_is_free(self):
        # 0-1, 0-2, 1-2, 1-3: column 3 meets the colour 1 alone.
        self.assertEqual(last(program_with([[0, 1, 2], [1, 3]], 4), colours(0, 0)), [3, 4, 0, 1, 2, 0])

    def test_twelve_colours(self):
        self.assertEqual(last(program_with([list(range(12))], 12), colours(0, 2)), [12, 12] + list(range(12)))
        self.assertEqual(last(program_with([[0]] * 12, 1), colours(1, 1)), [12, 12] + list(range(12)))

    def test_out_of_range(self):
        for wrong in (-1, 3, -GREATEST, GREATEST):
            self.assertEqual(last(PATH, colours(0, wrong)), [-1])
            self.assertEqual(last(PATH, colours(1, wrong)), [-1])
        for wrong in (-1, 2, -GREATEST, GREATEST):
            self.assertEqual(last(PATH, colours(wrong, 0)), [-1])
            self.assertEqual(last(PATH, colours(wrong, 5)), [-1])


class Check(unittest.TestCase):
    def test_a_new_object(self):
        self.assertEqual(ask(check(0, []), check(1, []), check(0, [0]), check(1, [0])), [[1], [1], [-2], [-2]])

    def test_proper(self):
        self.assertEqual(last(PATH, check(0, [0, 1, 0, 1, 0, 0])), [1])
        self.assertEqual(last(PATH, check(0, [5, 99, 0, 99, 7, 7])), [1])
        self.assertEqual(last(ROWS, check(1, [0, 0, 1, 1, 1])), [1])

    def test_the_first_pair(self):
        self.assertEqual(last(PATH, check(0, [0, 1, 2, 2, 2, 0])), [0, 2, 3])
        self.assertEqual(last(STAR, check(0, [0, 0, 0, 0, 0])), [0, 0, 3])
        self.assertEqual(last(STAR, check(0, [1, 0, 0, 0, 0])), [0, 1, 2])
        self.assertEqual(last(STAR, check(0, [1, 0, 2, 0, 0])), [0, 1, 3])
        self.assertEqual(last(STAR, check(0, [1, 2, 3, 99, 99])), [0, 3, 4])

    def test_first_by_the_first_number_and_then_by_the_second(self):
        # 0-4 comes ahead of 1-2; of 0-2 and 0-4 the first is 0-2.
        rows = program_with([[0, 4], [1, 2], [0, 2]], 5)
        self.assertEqual(last(rows, check(0, [0, 1, 1, 3, 0])), [0, 0, 4])
        self.assertEqual(last(rows, check(0, [0, 1, 0, 3, 0])), [0, 0, 2])

    def test_rows(self):
        self.assertEqual(last(ROWS, check(1, [0, 0, 1, 0, 0])), [0, 0, 3])
        self.assertEqual(last(ROWS, check(1, [1, 0, 0, 0, 0])), [0, 1, 3])

    def test_alike_without_meeting(self):
        self.assertEqual(last(program_with([[0], [1], [2]], 3), check(0, [4, 4, 4])), [1])

    def test_no_inputs(self):
        constant = code(0, [1, 1, 1], [0, 0])
        self.assertEqual(ask(constant, check(0, []), check(1, [3, 3]))[1:], [[1], [1]])

    def test_sides_there_are_not(self):
        for side in (-1, 2, -GREATEST, GREATEST):
            self.assertEqual(last(PATH, check(side, [0] * 6)), [-1])
            self.assertEqual(last(PATH, check(side, [-1])), [-1])

    def test_how_many_colours(self):
        for given in ([], [0] * 5, [0] * 7, [0] * 100):
            self.assertEqual(last(PATH, check(0, given)), [-2])
        self.assertEqual(last(PATH, check(1, [0] * 6)), [-2])
        self.assertEqual(last(PATH, check(1, [0, 1, 2, 3, 4])), [1])

    def test_range_of_colours(self):
        for wrong in (-1, 100, -GREATEST, GREATEST):
            self.assertEqual(last(PATH, check(0, [0, 1, 2, 3, 4, wrong])), [-2])
            self.assertEqual(last(PATH, check(0, [wrong, 1, 1, 3, 4, 5])), [-2])


class NothingChanges(unittest.TestCase):
    def test_whatever_is_asked_the_program_is_as_it_was(self):
        before = ask(ROWS, pattern(), meets(0), meets(1))[1:]
        asked = [order(1, 2), colours(0, 1), check(0, [0, 1, 2]), meets(5), order(0, 9), colours(2, 0), check(0, [])]
        after = ask(ROWS, point([1, 2] * 3), *asked, pattern(), meets(0), meets(1))[-3:]
        self.assertEqual(after, before)
