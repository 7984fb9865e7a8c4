"""Promises 8 and 9: least, plan."""

import unittest

from tests.asking import GREATEST, ask, code, colours, last, least, meets, pattern, plan, point, program_with

# The columns 0, 2, 4, 6 each meet the columns 1, 3, 5, 7, but for the one behind them. The told colours by
# order 0 have four colours.
CROWN = [[a, b] for a in (0, 2, 4, 6) for b in (1, 3, 5, 7) if b != a + 1]


def turned(rows, n):
    """The same pattern with its rows as columns, and how many these then are."""
    return [[r for r, row in enumerate(rows) if k in row] for k in range(n)], len(rows)


def ring(n):
    return [[k, (k + 1) % n] for k in range(n)]


class Least(unittest.TestCase):
    def both_sides(self, rows, n, count):
        self.assertEqual(last(program_with(rows, n), least(0)), [count])
        self.assertEqual(last(program_with(*turned(rows, n)), least(1)), [count])

    def test_a_new_object(self):
        self.assertEqual(ask(least(0), least(1)), [[0], [0]])

    def test_no_inputs(self):
        self.assertEqual(ask(code(0, [1, 1, 1], [0, 0]), least(0), least(1))[1:], [[0], [1]])

    def test_one_column(self):
        self.both_sides([[0]], 1, 1)

    def test_none_meet(self):
        self.both_sides([[0], [1], [2]], 3, 1)
        self.both_sides([[]], 8, 1)

    def test_all_meet(self):
        for n in range(2, 9):
            self.both_sides([list(range(n))], n, n)

    def test_rings(self):
        for n, count in ((3, 3), (4, 2), (5, 3), (6, 2), (7, 3), (8, 2)):
            self.both_sides(ring(n), n, count)

    def test_a_ring_and_one_that_meets_all_of_it(self):
        self.both_sides([row + [5] for row in ring(5)], 6, 4)
        self.both_sides([row + [7] for row in ring(7)], 8, 4)
        self.both_sides([row + [6] for row in ring(6)], 7, 3)

    def test_a_ring_and_three_that_meet_all(self):
        rows = ring(5) + [[5, 6, 7, k] for k in range(5)]
        self.both_sides(rows, 8, 6)

    def test_fewer_than_the_told_colours(self):
        self.both_sides(CROWN, 8, 2)
        self.assertEqual(last(program_with(CROWN, 8), colours(0, 0))[0], 4)

    def test_an_out_told_twice(self):
        self.assertEqual(last(code(2, [0, 0], [0, 0, 0]), least(1)), [3])

    def test_the_two_sides_are_two(self):
        self.assertEqual(ask(program_with([[0, 1, 2]], 3), least(0), least(1))[1:], [[3], [1]])

    def test_eight_and_nine_columns(self):
        for rows in ([[0, 1]], [list(range(8))]):
            self.assertEqual(last(program_with(rows, 8), least(0)), [len(rows[0])])
            self.assertEqual(last(program_with(rows, 9), least(0)), [-7])
        self.assertEqual(last(program_with([[0]], 12), least(0)), [-7])

    def test_eight_and_nine_rows(self):
        self.assertEqual(last(program_with([[0]] * 8, 1), least(1)), [8])
        self.assertEqual(last(program_with([[0]] * 9, 1), least(1)), [-7])
        self.assertEqual(last(program_with([[]] * 9, 1), least(1)), [-7])
        self.assertEqual(last(program_with([[]] * 12, 1), least(1)), [-7])

    def test_only_the_side_that_is_asked_counts(self):
        self.assertEqual(ask(program_with([[0]], 9), least(0), least(1))[1:], [[-7], [1]])
        self.assertEqual(ask(program_with([[0]] * 9, 1), least(0), least(1))[1:], [[1], [-7]])

    def test_sides_there_are_not(self):
        for side in (-1, 2, -GREATEST, GREATEST):
            self.assertEqual(ask(least(side)), [[-1]])
            self.assertEqual(last(program_with([[0]] * 9, 9), least(side)), [-1])

    def test_it_needs_no_point_and_a_fault_is_no_matter(self):
        by_itself = code(1, [0, 0, 5, 0, 0], [1])
        self.assertEqual(ask(by_itself, least(0), point([0, 1]), least(0)), [[2], [1], [1, 1, 1], [1]])

    def test_a_refusal_leaves_everything(self):
        nine = program_with([[0, 8]], 9)
        told = ask(nine, pattern(), meets(0), least(0), least(2), pattern(), meets(0))
        self.assertEqual(told[3:5], [[-7], [-1]])
        self.assertEqual(told[5:], told[1:3])


class Plan(unittest.TestCase):
    def plan_of(self, rows, n):
        return last(program_with(rows, n), plan())

    def test_a_new_object(self):
        self.assertEqual(ask(plan()), [[0, 0, 0]])

    def test_no_inputs(self):
        self.assertEqual(last(code(0, [1, 1, 1], [0, 0]), plan()), [0, 0, 0])

    def test_all_alike(self):
        self.assertEqual(self.plan_of([[0], [1]], 2), [0, 0, 1])
        self.assertEqual(self.plan_of([[0, 1], [0, 1]], 2), [0, 0, 2])
        self.assertEqual(self.plan_of([[]], 2), [0, 0, 1])

    def test_the_columns_by_order_0(self):
        self.assertEqual(self.plan_of([[0], [0], [1]], 2), [0, 0, 1])

    def test_the_columns_by_order_1(self):
        # A path of columns, 1-2-3-0: by order 0 it gets three colours. Of the rows order 0 takes two as well.
        self.assertEqual(self.plan_of([[1, 2], [2, 3], [0, 3]], 4), [0, 1, 2])

    def test_the_columns_by_order_2(self):
        # A path of columns, 0-1-4-2-5-3-0, that comes back: only order 2 goes round it.
        self.assertEqual(self.plan_of([[0, 1], [2, 4], [3, 5], [1, 4], [0, 3], [2, 5]], 6), [0, 2, 2])

    def test_the_rows_by_order_0(self):
        self.assertEqual(self.plan_of([[0, 1]], 2), [1, 0, 1])
        self.assertEqual(self.plan_of([[0, 1, 2], [3, 4, 5], [0, 3]], 6), [1, 0, 2])

    def test_the_rows_by_order_1(self):
        # A path of rows, 0-1-3-2; three columns meet in the last row.
        self.assertEqual(self.plan_of([[3], [0, 3], [2], [0, 1, 2]], 4), [1, 1, 2])

    def test_the_rows_by_order_2(self):
        rows = [[1], [0, 1, 2], [0, 6], [2], [5], [3, 4, 5], [3, 6]]
        call = program_with(rows, 7)
        self.assertEqual([last(call, colours(side, k))[0] for side in (0, 1) for k in range(3)], [3, 3, 3, 3, 3, 2])
        self.assertEqual(last(call, plan()), [1, 2, 2])

    def test_more_than_eight_columns(self):
        self.assertEqual(self.plan_of([list(range(12))], 12), [1, 0, 1])
        self.assertEqual(self.plan_of([list(range(12)), [11]], 12), [1, 0, 2])

    def test_it_is_of_the_told_colours_not_of_the_fewest_there_can_be(self):
        # The triangles 2-3-4 and 0-1-5 of columns, joined by 4-5, 0-3 and 1-2; four rows meet in column 3.
        prism = program_with([[2, 3, 4], [4, 5], [0, 3], [1, 2], [3, 4], [0, 1, 5], [3, 4]], 6)
        self.assertEqual(ask(prism, least(0), plan())[1:], [[3], [0, 0, 4]])
        self.assertEqual(last(program_with(CROWN, 8), plan()), [0, 2, 2])

    def test_it_needs_no_point_and_a_fault_is_no_matter(self):
        by_itself = code(1, [0, 0, 5, 0, 0], [1])
        self.assertEqual(ask(by_itself, plan(), point([0, 1]), plan()), [[2], [0, 0, 1], [1, 1, 1], [0, 0, 1]])
