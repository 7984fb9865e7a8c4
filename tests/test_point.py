"""Promise 2: point, and with it fractions, their weight, runs and their faults."""

import unittest

from tests.asking import GREATEST, ask, code, last, pattern, point

ONE = [1, 1, 1]
NONE = [1, 0, 1]
POWER = 2 ** 33
# Lines 0 to 3: two to the 33rd, the 66th, the 99th and the 198th.
POWERS = [1, POWER, 1, 4, 0, 0, 4, 0, 1, 4, 2, 2]


def fault_of(lines, fractions=(), n=0):
    """What point answers for this code, with its first line as its only out."""
    return last(code(n, lines, [0]), point(fractions))


class Runs(unittest.TestCase):
    def test_without_a_fault(self):
        example = [0, 0, 0, 1, 4, 0, 1, 2, 2, 0]
        self.assertEqual(fault_of(example, [1, 2, -3, 4], 2), [0])

    def test_a_new_object(self):
        self.assertEqual(ask(point([])), [[0]])

    def test_no_inputs(self):
        self.assertEqual(fault_of(ONE), [0])

    def test_twelve_inputs(self):
        lines = [number for k in range(12) for number in (0, k)]
        fractions = [number for k in range(12) for number in (k - 6, k + 1)]
        self.assertEqual(fault_of(lines, fractions, 12), [0])

    def test_numbers_at_the_ends_of_their_range(self):
        self.assertEqual(fault_of([0, 0, 0, 1], [-GREATEST, GREATEST, GREATEST, 1], 2), [0])

    def test_each_input_is_its_own(self):
        lines = [0, 0, 0, 1, 3, 0, 1, 5, 0, 2]
        self.assertEqual(fault_of(lines, [1, 2, 1, 3], 2), [0])
        self.assertEqual(fault_of(lines, [1, 2, 1, 2], 2), [1, 3, 1])


class DivisorFault(unittest.TestCase):
    def test_a_divisor_that_is_nought(self):
        self.assertEqual(fault_of(ONE + NONE + [5, 0, 1]), [1, 2, 1])

    def test_nought_over_nought(self):
        self.assertEqual(fault_of(NONE + [5, 0, 0]), [1, 1, 1])

    def test_nought_may_be_divided(self):
        self.assertEqual(fault_of(ONE + NONE + [5, 1, 0]), [0])

    def test_nought_told_with_another_denominator(self):
        self.assertEqual(fault_of([0, 0, 5, 0, 0], [0, GREATEST], 1), [1, 1, 1])

    def test_each_kind_of_line_by_a_divisor_that_is_nought(self):
        # 3/4 and -1/2 joined, less what should come of it, is nought.
        for kind, top, bottom in ((2, 1, 4), (3, 5, 4), (4, -3, 8), (5, -3, 2)):
            lines = [1, 3, 4, 1, -1, 2, kind, 0, 1, 1, top, bottom, 3, 2, 3, 5, 0, 4]
            self.assertEqual(fault_of(lines), [1, 5, 1], kind)
            wrong = [1, 3, 4, 1, -1, 2, kind, 0, 1, 1, top + 1, bottom, 3, 2, 3, 5, 0, 4]
            self.assertEqual(fault_of(wrong), [0], kind)

    def test_an_opposite(self):
        self.assertEqual(fault_of([1, 3, 4, 6, 0, 2, 0, 1, 5, 0, 2]), [1, 3, 1])

    def test_fractions_not_in_lowest_terms(self):
        lines = [0, 0, 0, 1, 3, 0, 1, 5, 0, 2]
        self.assertEqual(fault_of(lines, [6, 8, 9, 12], 2), [1, 3, 1])
        self.assertEqual(fault_of([1, -6, 8, 1, 3, 4, 2, 0, 1, 5, 0, 2]), [1, 3, 1])


class WeightFault(unittest.TestCase):
    def test_two_hundred_is_taken(self):
        self.assertEqual(fault_of(POWERS), [0])

    def test_two_hundred_and_one(self):
        self.assertEqual(fault_of(POWERS + [2, 3, 3]), [1, 4, 2])

    def test_below_nought(self):
        self.assertEqual(fault_of(POWERS + [6, 3]), [0])
        self.assertEqual(fault_of(POWERS + [6, 3, 2, 4, 4]), [1, 5, 2])
        self.assertEqual(fault_of(POWERS + [6, 3, 3, 4, 3]), [1, 5, 2])

    def test_denominators_weigh_too(self):
        # One over two to the 198th weighs 200; the half of that 201.
        over = POWERS + ONE + [5, 4, 3]
        self.assertEqual(fault_of(over), [0])
        self.assertEqual(fault_of(over + [1, 1, 2, 4, 5, 6]), [1, 7, 2])

    def test_numerator_and_denominator_are_added(self):
        # (2^98 + 1) / 2^99 weighs 99 + 100; three times that 100 + 100; five times 101 + 100.
        lines = POWERS + [1, 2, 1, 5, 2, 4] + ONE + [2, 5, 6, 5, 7, 2]
        self.assertEqual(fault_of(lines), [0])
        self.assertEqual(fault_of(lines + [1, 3, 1, 4, 8, 9]), [0])
        self.assertEqual(fault_of(lines + [1, 5, 1, 4, 8, 9]), [1, 10, 2])

    def test_products_and_quotients(self):
        self.assertEqual(fault_of(POWERS + [1, 2, 1, 4, 3, 4]), [1, 5, 2])
        self.assertEqual(fault_of(POWERS + [1, -1, 2, 5, 3, 4]), [1, 5, 2])

    def test_only_lowest_terms_are_weighed(self):
        self.assertEqual(fault_of(POWERS + [5, 3, 3]), [0])
        self.assertEqual(fault_of(POWERS + ONE + [5, 4, 3, 4, 3, 5]), [0])
        self.assertEqual(fault_of(POWERS + [3, 3, 3]), [0])

    def test_inputs_and_constants_are_weighed_in_lowest_terms(self):
        # Squared again and again, 1, -1 and 0 stay light.
        ones = [4, 0, 0, 4, 1, 1, 4, 2, 2, 4, 3, 3]
        self.assertEqual(fault_of([0, 0] + ones, [GREATEST, GREATEST], 1), [0])
        self.assertEqual(fault_of([1, -GREATEST, GREATEST] + ones), [0])
        self.assertEqual(fault_of([0, 0] + ones, [0, GREATEST], 1), [0])

    def test_at_inputs(self):
        lines = [0, 0, 4, 0, 0, 4, 0, 1, 4, 2, 2]
        self.assertEqual(fault_of(lines, [POWER, 1], 1), [0])
        self.assertEqual(fault_of(lines, [POWER * 2, 1], 1), [1, 3, 2])


class FirstFault(unittest.TestCase):
    BY_NOUGHT = [1, 0, 1, 5, 0, 4]
    TOO_HEAVY = [2, 3, 3]

    def test_the_divisor_first(self):
        self.assertEqual(fault_of(POWERS + self.BY_NOUGHT + self.TOO_HEAVY), [1, 5, 1])

    def test_the_weight_first(self):
        self.assertEqual(fault_of(POWERS + self.TOO_HEAVY + [1, 0, 1, 5, 0, 5]), [1, 4, 2])

    def test_of_two_alike_the_first(self):
        self.assertEqual(fault_of(POWERS + self.TOO_HEAVY * 2), [1, 4, 2])
        self.assertEqual(fault_of(NONE + [5, 0, 0, 5, 0, 0]), [1, 1, 1])

    def test_a_line_that_is_no_out_counts(self):
        self.assertEqual(last(code(0, NONE + [5, 0, 0] + ONE, [0, 2]), point([])), [1, 1, 1])

    def test_the_last_of_eighty_lines(self):
        self.assertEqual(fault_of([0, 0] * 79 + [5, 0, 78], [0, 1], 1), [1, 79, 1])


class Refused(unittest.TestCase):
    CODE = code(2, [0, 0, 0, 1, 5, 0, 1], [2])

    def test_how_many_numbers(self):
        for fractions in ([], [1], [1, 1], [1, 1, 1], [1, 1, 1, 1, 1], [1] * 6, [1] * 100):
            self.assertEqual(last(self.CODE, point(fractions)), [-2], fractions)

    def test_denominators(self):
        for bottom in (0, -1, -GREATEST):
            self.assertEqual(last(self.CODE, point([1, bottom, 1, 1])), [-2])
            self.assertEqual(last(self.CODE, point([1, 1, 1, bottom])), [-2])

    def test_a_new_object_takes_no_fraction(self):
        self.assertEqual(ask(point([1, 1])), [[-2]])

    def test_by_the_inputs_of_the_program_that_is_held(self):
        told = ask(self.CODE, point([1, 1]), code(1, [0, 0], [0]), point([1, 1]), point([1, 1, 1, 1]))
        self.assertEqual(told[1:], [[-2], [1], [0], [-2]])

    def test_the_program_is_as_it_was(self):
        told = ask(self.CODE, point([1, 0, 1, 1]), pattern(), point([1, 1, 0, 1]))
        self.assertEqual(told[1:], [[-2], [1, 2, 2, 0, 1], [1, 2, 1]])


class Again(unittest.TestCase):
    def test_point_after_point(self):
        told = ask(code(1, [0, 0, 5, 0, 0], [1]), point([0, 1]), point([2, 1]), point([0, 5]))
        self.assertEqual(told[1:], [[1, 1, 1], [0], [1, 1, 1]])

    def test_a_fault_leaves_the_pattern(self):
        told = ask(code(1, [0, 0, 5, 0, 0], [1]), point([0, 1]), pattern())
        self.assertEqual(told[1:], [[1, 1, 1], [1, 1, 1, 0]])
