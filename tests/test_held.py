"""Parts by themselves: the point that is held, and fractions."""

import unittest
from fractions import Fraction

from sparsetables.answering import answer_call
from sparsetables.exact import lowest_terms, minus, opposite, over, plus, times, turned_over, weight
from sparsetables.held import Held


class Points(unittest.TestCase):
    def setUp(self):
        self.held = Held()

    def take_code(self, n, lines, outs):
        return answer_call(self.held, 0, [n], [lines, outs])

    def take_point(self, fractions):
        return answer_call(self.held, 1, [], [fractions])

    def test_none_at_the_beginning(self):
        self.assertIsNone(self.held.point)

    def test_in_lowest_terms(self):
        self.take_code(2, [0, 0], [0])
        self.assertEqual(self.take_point([6, 8, 0, 7]), [0])
        self.assertEqual(self.held.point, [(3, 4), (0, 1)])

    def test_a_new_object_takes_the_point_without_fractions(self):
        self.assertEqual(self.take_point([]), [0])
        self.assertEqual(self.held.point, [])

    def test_taken_all_the_same_where_the_run_has_a_fault(self):
        self.take_code(1, [0, 0, 5, 0, 0], [1])
        self.take_point([3, 1])
        self.assertEqual(self.take_point([0, 1]), [1, 1, 1])
        self.assertEqual(self.held.point, [(0, 1)])

    def test_a_new_code_takes_it_away(self):
        self.take_code(1, [0, 0], [0])
        self.take_point([3, 1])
        self.assertEqual(self.take_code(1, [0, 0], [0]), [1])
        self.assertIsNone(self.held.point)

    def test_a_refusal_leaves_it(self):
        self.take_code(1, [0, 0], [0])
        self.take_point([3, 1])
        for n, lines, outs in ((13, [0, 0], [0]), (1, [7], [0]), (1, [0, 0] * 81, [0]), (1, [0, 1], [0]),
                               (1, [0, 0], [1])):
            self.assertLess(self.take_code(n, lines, outs)[0], 0)
            self.assertEqual(self.held.point, [(3, 1)])
        self.assertEqual(self.take_point([4, 0]), [-2])
        self.assertEqual(self.take_point([4]), [-2])
        self.assertEqual(self.held.point, [(3, 1)])


class Fractions(unittest.TestCase):
    def test_the_documents_weights(self):
        self.assertEqual([weight(lowest_terms(*f)) for f in ((0, 1), (1, 1), (-3, 4))], [1, 2, 5])
        self.assertEqual([weight(lowest_terms(*f)) for f in ((0, 9), (7, 7), (-30, 40))], [1, 2, 5])

    def test_reckoning(self):
        self.assertEqual(plus((1, 6), (1, 3)), (1, 2))
        self.assertEqual(minus((1, 6), (2, 3)), (-1, 2))
        self.assertEqual(minus((2, 3), (2, 3)), (0, 1))
        self.assertEqual(times((-2, 3), (3, 4)), (-1, 2))
        self.assertEqual(times((-2, 3), (0, 1)), (0, 1))
        self.assertEqual(over((1, 2), (-3, 4)), (-2, 3))
        self.assertEqual(over((0, 1), (-3, 4)), (0, 1))
        self.assertEqual(over((3, 1), (-1, 1)), (-3, 1))
        self.assertEqual(opposite((-3, 4)), (3, 4))
        self.assertEqual([turned_over(f) for f in ((3, 4), (-3, 4), (-1, 1))], [(4, 3), (-4, 3), (-1, 1)])

    def test_lowest_terms_against_pythons_own(self):
        fractions = [Fraction(top, bottom) for top in range(-7, 8) for bottom in range(1, 13)]
        for one in fractions:
            for other in fractions:
                first, second = one.as_integer_ratio(), other.as_integer_ratio()
                self.assertEqual(plus(first, second), (one + other).as_integer_ratio())
                self.assertEqual(minus(first, second), (one - other).as_integer_ratio())
                self.assertEqual(times(first, second), (one * other).as_integer_ratio())
                if other:
                    self.assertEqual(over(first, second), (one / other).as_integer_ratio())
