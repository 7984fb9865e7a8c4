"""Promises 10 to 12: dense, packed, table, apart."""

import unittest
from fractions import Fraction

from tests.asking import GREATEST, apart, ask, check, code, dense, last, meets, packed, pattern, plan, point
from tests.asking import program_with, table, told

F = Fraction
SIDES_AND_ORDERS = [(side, k) for side in (0, 1) for k in (0, 1, 2)]

# Every kind of line over the inputs x, y and z, here at 2, 3/2 and -1/3.
KINDS = [
    0, 0,     # 0: x
    0, 1,     # 1: y
    0, 2,     # 2: z
    1, 10, 6, # 3: 5/3
    4, 0, 1,  # 4: x y = 3
    2, 4, 3,  # 5: x y + 5/3 = 14/3
    5, 0, 1,  # 6: x / y = 4/3
    6, 6,     # 7: -x / y
    3, 5, 2,  # 8: x y + 5/3 - z = 5
    4, 8, 6,  # 9: the product of 8 and 6
    5, 3, 8,  # 10: 5/3 over 8, that is 1/3
]
KINDS_POINT = point([2, 1, 3, 2, -1, 3])
KINDS_TABLE = {
    0: [1, 0, 0],
    1: [0, 1, 0],
    2: [0, 0, 1],
    3: [0, 0, 0],
    4: [F(3, 2), 2, 0],
    5: [F(3, 2), 2, 0],
    6: [F(2, 3), F(-8, 9), 0],
    7: [F(-2, 3), F(8, 9), 0],
    8: [F(3, 2), 2, -1],
    9: [F(16, 3), F(-16, 9), F(-4, 3)],
    10: [F(-1, 10), F(-2, 15), F(1, 15)],
}


def linear(rows):
    """A program whose table is these whole numbers at any point; it has no entry where they are 0."""
    n = len(rows[0])
    lines = [number for k in range(n) for number in (0, k)] + [1, 7, 1]
    how_many = n + 1
    outs = []
    for row in rows:
        out = n
        for k, factor in enumerate(row):
            if factor:
                lines += [1, factor, 1, 4, how_many, k, 2, out, how_many + 1]
                out = how_many + 2
                how_many += 3
        outs.append(out)
    return code(n, lines, outs)


# The columns that meet: 0-2, 2-3, 3-1. Each order gives them other colours.
PATH = [[2, 0, 3, 0], [0, 0, 5, 7], [0, 11, 0, 13]]
PATH_TURNED = [[2, 0, 0], [0, 0, 11], [3, 5, 0], [0, 7, 13]]
PATH_BEGIN = (linear(PATH), point([1, 2] * 4))
TURNED_BEGIN = (linear(PATH_TURNED), point([1, 2] * 3))

# 1/x over the input x: its run has a fault at 0.
TURNED_OVER = code(1, [1, 1, 1, 0, 0, 5, 0, 1], [2])


def each_table_call(given):
    """Every call that tells a table, with this colouring for apart."""
    calls = [dense(), apart(given)]
    for side, k in SIDES_AND_ORDERS:
        calls += [packed(side, k), table(side, k)]
    return calls


class Dense(unittest.TestCase):
    def one_row(self, n, lines, out, fractions):
        return last(code(n, lines, [out]), point(fractions), dense())

    def test_each_kind_of_line(self):
        for out in range(11):
            answer = last(code(3, KINDS, [out]), KINDS_POINT, dense())
            self.assertEqual(answer, told([KINDS_TABLE[out]]), out)

    def test_several_outs(self):
        outs = [10, 9, 3, 8, 0, 7, 6, 5, 4, 2, 1]
        answer = last(code(3, KINDS, outs), KINDS_POINT, dense())
        self.assertEqual(answer, told([KINDS_TABLE[out] for out in outs]))

    def test_the_numbers_as_they_lie(self):
        answer = last(code(2, [0, 0, 0, 1, 4, 0, 1, 5, 0, 1], [2, 3]), point([6, 4, -2, 3]), dense())
        self.assertEqual(answer, [2, 2, -2, 3, 3, 2, -3, 2, -27, 8])

    def test_an_input_told_by_two_lines(self):
        self.assertEqual(self.one_row(1, [0, 0, 0, 0, 4, 0, 1], 2, [5, 1]), told([[10]]))

    def test_a_line_with_itself(self):
        for kind, change in ((2, 2), (3, 0), (4, F(6, 5)), (5, 0)):
            self.assertEqual(self.one_row(1, [0, 0, kind, 0, 0], 1, [3, 5]), told([[change]]), kind)

    def test_opposites(self):
        self.assertEqual(self.one_row(2, [0, 0, 0, 1, 6, 1], 2, [3, 1, 4, 1]), told([[0, -1]]))
        self.assertEqual(self.one_row(1, [0, 0, 4, 0, 0, 6, 1, 6, 2], 2, [3, 1]), told([[-6]]))
        self.assertEqual(self.one_row(1, [0, 0, 4, 0, 0, 6, 1, 6, 2], 3, [3, 1]), told([[6]]))

    def test_which_of_two_comes_first(self):
        # Of x and y at 3 and 4: x - y, y - x, x / y, y / x.
        for lines, row in (([3, 0, 1], [1, -1]), ([3, 1, 0], [-1, 1]),
                           ([5, 0, 1], [F(1, 4), F(-3, 16)]), ([5, 1, 0], [F(-4, 9), F(1, 3)])):
            self.assertEqual(self.one_row(2, [0, 0, 0, 1] + lines, 2, [3, 1, 4, 1]), told([row]))

    def test_by_a_divisor_below_nought(self):
        self.assertEqual(self.one_row(2, [0, 0, 0, 1, 5, 0, 1], 2, [3, 1, -4, 1]), told([[F(-1, 4), F(-3, 16)]]))

    def test_where_a_value_is_nought(self):
        self.assertEqual(self.one_row(2, [0, 0, 0, 1, 4, 0, 1], 2, [0, 1, 4, 1]), told([[4, 0]]))
        self.assertEqual(self.one_row(2, [0, 0, 0, 1, 5, 0, 1], 2, [0, 1, 4, 1]), told([[F(1, 4), 0]]))

    def test_powers(self):
        # x to the 8th, by three products.
        self.assertEqual(self.one_row(1, [0, 0, 4, 0, 0, 4, 1, 1, 4, 2, 2], 3, [-3, 2]), told([[F(-2187, 16)]]))

    def test_a_quotient_of_quotients(self):
        # x / (1 / x) is x x.
        self.assertEqual(self.one_row(1, [0, 0, 1, 1, 1, 5, 1, 0, 5, 0, 2], 3, [5, 7]), told([[F(10, 7)]]))

    def test_only_the_pointed_values_matter_not_how_they_are_told(self):
        self.assertEqual(self.one_row(1, [0, 0, 4, 0, 0], 1, [30, 50]), told([[F(6, 5)]]))

    def test_a_column_that_no_out_hangs_on(self):
        self.assertEqual(self.one_row(3, [0, 1], 0, [1, 1] * 3), told([[0, 1, 0]]))

    def test_an_out_told_twice(self):
        answer = last(code(2, [0, 0, 0, 1, 4, 0, 1], [2, 0, 2]), point([3, 1, 4, 1]), dense())
        self.assertEqual(answer, told([[4, 3], [1, 0], [4, 3]]))

    def test_a_new_object(self):
        self.assertEqual(ask(dense(), point([]), dense()), [[-4], [0], [0, 0]])

    def test_no_inputs(self):
        self.assertEqual(last(code(0, [1, 1, 1], [0, 0]), point([]), dense()), [2, 0])

    def test_twelve_by_twelve(self):
        lines = [number for k in range(12) for number in (0, k)]
        rows = [[int(k == 11 - r) for k in range(12)] for r in range(12)]
        self.assertEqual(last(code(12, lines, list(range(11, -1, -1))), point([1, 1] * 12), dense()), told(rows))

    def test_eighty_lines(self):
        lines = [0, 0] + [number for k in range(79) for number in (2, k, k)]
        self.assertEqual(self.one_row(1, lines, 79, [1, 1]), told([[2 ** 79]]))

    def test_the_greatest_numbers(self):
        self.assertEqual(self.one_row(1, [0, 0, 4, 0, 0], 1, [GREATEST, 1]), told([[2 * GREATEST]]))
        self.assertEqual(self.one_row(1, [0, 0, 4, 0, 0], 1, [1, GREATEST]), told([[F(2, GREATEST)]]))

    def test_another_point_tells_another_table(self):
        square = code(1, [0, 0, 4, 0, 0], [1])
        answers = ask(square, point([1, 1]), dense(), point([5, 1]), dense())
        self.assertEqual([answers[2], answers[4]], [told([[2]]), told([[10]])])


class Packed(unittest.TestCase):
    def test_two_columns_of_one_colour(self):
        packed_rows = ([[2, 3, 0], [0, 5, 7], [11, 0, 13]], [[3, 2], [5, 7], [11, 13]], [[2, 3], [7, 5], [13, 11]])
        for k, rows in enumerate(packed_rows):
            self.assertEqual(last(*PATH_BEGIN, packed(0, k)), told(rows), k)

    def test_two_rows_of_one_colour(self):
        packed_rows = ([[2, 0, 11], [3, 5, 0], [0, 7, 13]], [[3, 5, 11], [2, 7, 13]], [[2, 7, 13], [3, 5, 11]])
        for k, rows in enumerate(packed_rows):
            self.assertEqual(last(*TURNED_BEGIN, packed(1, k)), told(rows), k)

    def test_the_other_side(self):
        # Every two rows that lie beside each other meet, and so do every two columns of the turned one.
        self.assertEqual(last(*PATH_BEGIN, packed(1, 0)), told([[2, 11, 3, 13], [0, 0, 5, 7]]))
        self.assertEqual(last(*TURNED_BEGIN, packed(0, 0)), told([[2, 0], [11, 0], [3, 5], [13, 7]]))

    def test_changes_that_hang_on_the_point(self):
        # x y and y / z at 2, 3 and 5: x and z are moved at once.
        program = code(3, [0, 0, 0, 1, 0, 2, 4, 0, 1, 5, 1, 2], [3, 4])
        at = point([2, 1, 3, 1, 5, 1])
        self.assertEqual(last(program, at, packed(0, 0)), told([[3, 2], [F(-3, 25), F(1, 5)]]))
        self.assertEqual(last(program, at, packed(0, 1)), told([[2, 3], [F(1, 5), F(-3, 25)]]))
        self.assertEqual(last(program, at, packed(1, 0)), told([[3, 2, 0], [0, F(1, 5), F(-3, 25)]]))

    def test_rows_of_fractions(self):
        # x x, y / 3 and x y at 1/2 and 2/3: the first two rows have one colour.
        program = code(2, [0, 0, 0, 1, 1, 3, 1, 4, 0, 0, 5, 1, 2, 4, 0, 1], [3, 4, 5])
        answer = last(program, point([1, 2, 2, 3]), packed(1, 0))
        self.assertEqual(answer, told([[1, F(1, 3)], [F(2, 3), F(1, 2)]]))

    def test_no_pair_meets(self):
        begin = (linear([[2, 0, 0], [0, 0, 5], [0, 3, 0]]), point([0, 1] * 3))
        for k in range(3):
            self.assertEqual(last(*begin, packed(0, k)), told([[2], [5], [3]]))
            self.assertEqual(last(*begin, packed(1, k)), told([[2, 3, 5]]))

    def test_every_pair_meets(self):
        rows = [[2, 3], [5, 7]]
        for side, k in SIDES_AND_ORDERS:
            self.assertEqual(last(linear(rows), point([0, 1] * 2), packed(side, k)), told(rows))

    def test_a_column_that_no_out_hangs_on(self):
        begin = (linear([[0, 2, 3], [0, 5, 0]]), point([0, 1] * 3))
        self.assertEqual(last(*begin, packed(0, 0)), told([[2, 3], [5, 0]]))
        self.assertEqual(last(*begin, packed(1, 0)), told([[0, 2, 3], [0, 5, 0]]))

    def test_no_out_hangs_on_anything(self):
        begin = (code(2, [1, 1, 1], [0, 0]), point([0, 1] * 2))
        for k in range(3):
            self.assertEqual(last(*begin, packed(0, k)), told([[0], [0]]))
            self.assertEqual(last(*begin, packed(1, k)), told([[0, 0]]))

    def test_an_out_told_twice(self):
        begin = (code(2, [0, 0, 0, 1, 4, 0, 1], [2, 2]), point([3, 1, 4, 1]))
        for side, k in SIDES_AND_ORDERS:
            self.assertEqual(last(*begin, packed(side, k)), told([[4, 3], [4, 3]]))

    def test_no_inputs(self):
        begin = (code(0, [1, 1, 1], [0, 0]), point([]))
        for k in range(3):
            self.assertEqual(ask(*begin, packed(0, k), packed(1, k))[2:], [[2, 0], [1, 0]])


class Table(unittest.TestCase):
    def test_the_same_as_dense(self):
        for rows, begin in ((PATH, PATH_BEGIN), (PATH_TURNED, TURNED_BEGIN)):
            for side, k in SIDES_AND_ORDERS:
                self.assertEqual(last(*begin, table(side, k)), told(rows), (side, k))

    def test_every_kind_of_line(self):
        for outs in ([4, 2], [2, 10, 1, 3], [6, 7, 2, 2, 0], list(range(11))):
            answer = told([KINDS_TABLE[out] for out in outs])
            for side, k in SIDES_AND_ORDERS:
                self.assertEqual(last(code(3, KINDS, outs), KINDS_POINT, table(side, k)), answer, (outs, side, k))

    def test_two_columns_and_two_rows_of_one_colour(self):
        # Both are packed to three by three: 0 and 1 are of one colour.
        rows = [[2, 0, 3, 0], [0, 5, 0, 7], [0, 0, 11, 13], [0, 0, 0, 17]]
        begin = (linear(rows), point([0, 1] * 4))
        self.assertEqual(last(*begin, packed(0, 0)), told([[2, 3, 0], [5, 0, 7], [0, 11, 13], [0, 0, 17]]))
        self.assertEqual(last(*begin, packed(1, 0)), told([[2, 5, 3, 7], [0, 0, 11, 13], [0, 0, 0, 17]]))
        self.assertEqual(ask(*begin, dense(), table(0, 0), table(1, 0), apart([0, 0, 1, 2]))[2:], [told(rows)] * 4)

    def test_an_entry_that_is_nought_there(self):
        # x y + z at 0 and 0 hangs on all three; z + z on the last.
        begin = (code(3, [0, 0, 0, 1, 0, 2, 4, 0, 1, 2, 3, 2, 2, 2, 2], [4, 5]), point([0, 1] * 3))
        for side, k in SIDES_AND_ORDERS:
            self.assertEqual(last(*begin, table(side, k)), told([[0, 0, 1], [0, 0, 2]]))

    def test_no_out_hangs_on_anything(self):
        begin = (code(2, [1, 1, 1], [0, 0]), point([0, 1] * 2))
        for side, k in SIDES_AND_ORDERS:
            self.assertEqual(last(*begin, table(side, k)), told([[0, 0], [0, 0]]))

    def test_no_inputs(self):
        begin = (code(0, [1, 1, 1], [0, 0]), point([]))
        for side, k in SIDES_AND_ORDERS:
            self.assertEqual(last(*begin, table(side, k)), [2, 0])


class Apart(unittest.TestCase):
    def test_proper_colourings(self):
        for given in ([0, 0, 1, 2], [1, 0, 0, 1], [0, 1, 1, 0], [3, 2, 1, 0], [0, 1, 2, 3]):
            self.assertEqual(last(*PATH_BEGIN, apart(given)), told(PATH), given)

    def test_colours_that_leave_numbers_out(self):
        for given in ([0, 5, 5, 0], [99, 0, 0, 99], [99, 99, 98, 0], [7, 7, 8, 9], [99, 98, 97, 96]):
            self.assertEqual(last(*PATH_BEGIN, apart(given)), told(PATH), given)

    def test_every_kind_of_line(self):
        for given in ([0, 5, 0], [99, 0, 0], [1, 3, 2]):
            answer = last(code(3, KINDS, [4, 2, 7]), KINDS_POINT, apart(given))
            self.assertEqual(answer, told([KINDS_TABLE[out] for out in (4, 2, 7)]))
        answer = last(code(3, KINDS, [10, 9]), KINDS_POINT, apart([4, 0, 2]))
        self.assertEqual(answer, told([KINDS_TABLE[10], KINDS_TABLE[9]]))

    def test_one_colour_where_none_meet(self):
        begin = (linear([[2, 0, 0], [0, 0, 5], [0, 3, 0]]), point([0, 1] * 3))
        for given in ([0, 0, 0], [99, 99, 99], [1, 1, 0]):
            self.assertEqual(last(*begin, apart(given)), told([[2, 0, 0], [0, 0, 5], [0, 3, 0]]))

    def test_a_column_that_no_out_hangs_on_may_have_any_colour(self):
        begin = (linear([[0, 2, 3]]), point([0, 1] * 3))
        for given in ([0, 0, 1], [1, 0, 1], [2, 0, 1]):
            self.assertEqual(last(*begin, apart(given)), told([[0, 2, 3]]))

    def test_not_proper(self):
        for given in ([0, 1, 0, 1], [0, 0, 1, 1], [0, 1, 2, 1], [5, 5, 5, 5], [99, 0, 99, 1]):
            self.assertEqual(last(*PATH_BEGIN, apart(given)), [-8], given)

    def test_not_proper_where_the_entries_are_nought_there(self):
        # x y at 0 and 0: both entries are 0, but the columns meet.
        begin = (code(2, [0, 0, 0, 1, 4, 0, 1], [2]), point([0, 1] * 2))
        self.assertEqual(ask(*begin, apart([0, 0]), apart([0, 1]))[2:], [[-8], told([[0, 0]])])

    def test_proper_is_what_check_says_of_the_columns(self):
        for given in ([0, 0, 1, 1], [0, 1, 1, 0], [2, 2, 2, 0], [1, 0, 0, 0], [1, 0, 2, 3]):
            checked, answer = ask(*PATH_BEGIN, check(0, given), apart(given))[2:]
            self.assertEqual(answer, told(PATH) if checked == [1] else [-8])

    def test_colours_at_the_ends_of_their_range(self):
        self.assertEqual(last(*PATH_BEGIN, apart([0, 0, 99, 50])), told(PATH))
        for wrong in (-1, 100, -GREATEST, GREATEST):
            for place in range(4):
                given = [0, 1, 2, 3]
                given[place] = wrong
                self.assertEqual(last(*PATH_BEGIN, apart(given)), [-2])

    def test_how_many_colours(self):
        for given in ([], [0, 1, 2], [0, 0, 1, 2, 3], [0] * 100):
            self.assertEqual(last(*PATH_BEGIN, apart(given)), [-2])
        self.assertEqual(last(*TURNED_BEGIN, apart([0, 1, 2, 3])), [-2])
        self.assertEqual(last(*TURNED_BEGIN, apart([0, 1, 2])), told(PATH_TURNED))

    def test_no_inputs(self):
        begin = (code(0, [1, 1, 1], [0, 0]), point([]))
        self.assertEqual(ask(*begin, apart([]), apart([0]))[2:], [[2, 0], [-2]])


class NewObject(unittest.TestCase):
    def test_without_a_point(self):
        for call in each_table_call([]):
            self.assertEqual(ask(call), [[-4]])
        self.assertEqual(ask(apart([0])), [[-2]])

    def test_with_a_point(self):
        for call in each_table_call([]):
            self.assertEqual(ask(point([]), call), [[0], [0, 0]])
        self.assertEqual(ask(point([]), apart([0])), [[0], [-2]])


class Refusals(unittest.TestCase):
    def refuse(self, begin, given, refusal):
        for call in each_table_call(given):
            self.assertEqual(last(*begin, call), [refusal], call)

    def test_no_point(self):
        self.refuse([linear(PATH)], [0, 1, 2, 3], -4)

    def test_a_new_code_takes_the_point_away(self):
        self.refuse([*PATH_BEGIN, linear(PATH)], [0, 1, 2, 3], -4)

    def test_a_refused_code_leaves_the_point(self):
        wrong = [code(13, [], []), code(4, [9], [0]), code(4, [0, 0] * 81, [0]), code(4, [0, 4], [0]),
                 code(4, [0, 0], [1])]
        for call in each_table_call([0, 1, 2, 3]):
            self.assertEqual(last(*PATH_BEGIN, *wrong, call), last(*PATH_BEGIN, call))

    def test_a_refused_point_leaves_the_point(self):
        square = code(1, [0, 0, 4, 0, 0], [1])
        answer = last(square, point([3, 1]), point([4]), point([4, 0]), point([4, 1, 4, 1]), dense())
        self.assertEqual(answer, told([[6]]))
        self.assertEqual(last(square, point([4, 0]), dense()), [-4])

    def test_a_run_with_a_fault(self):
        self.refuse([TURNED_OVER, point([0, 1])], [0], -5)
        self.refuse([code(1, [0, 0, 4, 0, 0, 4, 1, 1], [0]), point([GREATEST, 1])], [0], -5)

    def test_a_fault_behind_every_out(self):
        self.refuse([code(1, [0, 0, 1, 0, 1, 5, 0, 1], [0]), point([1, 1])], [0], -5)

    def test_without_inputs(self):
        self.refuse([code(0, [1, 0, 1, 5, 0, 0], [0]), point([])], [], -5)
        self.refuse([code(0, [1, 0, 1], [0])], [], -4)

    def test_behind_a_fault_another_point(self):
        told_by = ask(TURNED_OVER, point([2, 1]), dense(), point([0, 1]), dense(), point([-2, 1]), dense())
        self.assertEqual(told_by[1:], [[0], told([[F(-1, 4)]]), [1, 2, 1], [-5], [0], told([[F(-1, 4)]])])

    def test_out_of_range(self):
        for begin in ([], PATH_BEGIN, [linear(PATH)], [TURNED_OVER, point([0, 1])]):
            for wrong in (-1, 2, -GREATEST, GREATEST):
                for call in (packed(wrong, 0), table(wrong, 0), packed(wrong, 3), table(wrong, 3)):
                    self.assertEqual(last(*begin, call), [-1])
            for wrong in (-1, 3, -GREATEST, GREATEST):
                for call in (packed(0, wrong), table(0, wrong), packed(1, wrong), table(1, wrong)):
                    self.assertEqual(last(*begin, call), [-1])

    def test_a_wrong_list_comes_ahead_of_the_point(self):
        pair = code(2, [0, 0, 0, 1, 5, 0, 1], [2])
        for given in ([0], [0, 0, 0], [0, 100], [-1, 0]):
            self.assertEqual(last(pair, apart(given)), [-2])
            self.assertEqual(last(pair, point([1, 1, 0, 1]), apart(given)), [-2])
            self.assertEqual(last(pair, point([1, 1, 1, 1]), apart(given)), [-2])

    def test_no_point_and_a_fault_come_ahead_of_a_colouring_that_is_not_proper(self):
        pair = code(2, [0, 0, 0, 1, 5, 0, 1], [2])
        self.assertEqual(last(pair, apart([3, 3])), [-4])
        self.assertEqual(last(pair, point([1, 1, 0, 1]), apart([3, 3])), [-5])
        self.assertEqual(last(pair, point([1, 1, 1, 1]), apart([3, 3])), [-8])

    def test_a_refusal_leaves_everything(self):
        wrong = [packed(2, 0), table(0, 3), apart([]), apart([0, 1, 2, 100]), apart([1, 1, 1, 1])]
        seen = [pattern(), meets(0), meets(1), plan()] + each_table_call([0, 0, 1, 2])
        self.assertEqual(ask(*PATH_BEGIN, *wrong)[2:], [[-1], [-1], [-2], [-2], [-8]])
        self.assertEqual(ask(*PATH_BEGIN, *wrong, *seen)[7:], ask(*PATH_BEGIN, *seen)[2:])
        faulty = [TURNED_OVER, point([0, 1])]
        self.assertEqual(ask(*faulty, dense(), apart([0]), dense(), point([1, 1]), dense())[2:],
                         [[-5], [-5], [-5], [0], told([[-1]])])
        self.assertEqual(ask(TURNED_OVER, dense(), pattern(), point([1, 1]), dense())[1:],
                         [[-4], [1, 1, 1, 0], [0], told([[-1]])])

    def test_a_table_leaves_everything(self):
        seen = each_table_call([0, 0, 1, 2])
        self.assertEqual(ask(*PATH_BEGIN, *seen, *seen)[2:], ask(*PATH_BEGIN, *seen)[2:] * 2)


# Lines 0 to 4: the input 0, then two to the 33rd, the 66th, the 99th and the 198th.
HEAVY = [0, 0, 1, 2 ** 33, 1, 4, 1, 1, 4, 1, 2, 4, 3, 3]


def heavy(kind, power, sign=1):
    """Input 0 times (kind 4) or over (kind 5) two to the power, and more than 20 lines that lead to it.

    Where the input is 0 all values are light, whatever the change.
    """
    lines = HEAVY + [1, sign * 2 ** (power % 198), 1]
    before, how_many = 0, 6
    for factor in [4] * (power // 198) + [5]:
        lines += [kind, before, factor]
        before = how_many
        how_many += 1
    return lines, before


class Weights(unittest.TestCase):
    def told_and_refused(self, make, power, entry):
        """The change of the out that weighs 4000 is told by every call, and the one above it by none."""
        lines, out = make(power)
        begin = (code(1, lines, [out]), point([0, 1]))
        for call in each_table_call([0]):
            self.assertEqual(last(*begin, call), told([[entry]]))
        lines, out = make(power + 1)
        begin = (code(1, lines, [out]), point([0, 1]))
        for call in each_table_call([0]):
            self.assertEqual(last(*begin, call), [-6])

    def test_a_numerator(self):
        self.told_and_refused(lambda power: heavy(4, power), 3998, 2 ** 3998)

    def test_a_denominator(self):
        self.told_and_refused(lambda power: heavy(5, power), 3998, F(1, 2 ** 3998))

    def test_below_nought(self):
        self.told_and_refused(lambda power: heavy(4, power, -1), 3998, -2 ** 3998)
        self.told_and_refused(lambda power: heavy(5, power, -1), 3998, F(-1, 2 ** 3998))

    def test_both_together(self):
        # Three over two to the power weighs one more.
        def make(power):
            lines, out = heavy(5, power)
            return lines + [1, 3, 1, 4, out, out + 1], out + 2
        self.told_and_refused(make, 3997, F(3, 2 ** 3997))

    def test_what_cancels_does_not_weigh(self):
        # Two over two to the 3999th.
        lines, out = heavy(5, 3999)
        lines += [1, 2, 1, 4, out, out + 1]
        self.assertEqual(last(code(1, lines, [out + 2]), point([0, 1]), dense()), told([[F(1, 2 ** 3998)]]))

    def test_only_what_is_told_counts(self):
        lines, out = heavy(4, 6000)
        begin = (code(1, lines, [0]), point([0, 1]))
        for call in each_table_call([0]):
            self.assertEqual(last(*begin, call), told([[1]]))
        self.assertEqual(last(code(1, lines + [3, out, out], [out + 1]), point([0, 1]), dense()), told([[0]]))

    def test_in_any_row_and_column(self):
        lines, out = heavy(4, 3999)
        lines += [0, 1, 0, 2, 2, out + 1, out + 2]
        for outs in ([out, out + 3], [out + 3, out], [out + 3, 0, out]):
            begin = (code(3, lines, outs), point([0, 1] * 3))
            for call in each_table_call([0, 0, 1]):
                self.assertEqual(last(*begin, call), [-6])
        for call in each_table_call([0, 0, 1]):
            self.assertGreater(last(code(3, lines, [out + 3]), point([0, 1] * 3), call)[0], 0)

    def test_behind_a_colouring_that_is_not_proper(self):
        lines, out = heavy(4, 3999)
        lines += [0, 1, 2, out, out + 1]
        begin = (code(2, lines, [out + 2]), point([0, 1] * 2))
        self.assertEqual(ask(*begin, apart([0, 0]), apart([0, 1]), apart([0]))[2:], [[-8], [-6], [-2]])
        self.assertEqual(ask(*begin, packed(2, 0), table(0, 3))[2:], [[-1], [-1]])

    def test_a_fault_comes_first(self):
        lines, out = heavy(4, 3999)
        begin = (code(1, lines + [1, 0, 1, 5, 0, out + 1], [out]), point([0, 1]))
        for call in each_table_call([0]):
            self.assertEqual(last(*begin, call), [-5])

    def test_a_refusal_leaves_everything(self):
        lines, out = heavy(4, 3999)
        begin = (code(1, lines, [out]), point([0, 1]))
        seen = ask(*begin, pattern(), dense(), pattern(), table(0, 0), dense())
        self.assertEqual(seen[2:], [[1, 1, 1, 0], [-6], [1, 1, 1, 0], [-6], [-6]])


class Sums(unittest.TestCase):
    def test_a_path_of_columns(self):
        # All entries are 1, so each packed entry says whether there is an entry of that colour.
        rows = [[0, 1], [1, 2], [2, 3], [3, 4], [5]]
        begin = (program_with(rows, 6), point([1, 3] * 6))
        answer = told([[int(k in row) for k in range(6)] for row in rows])
        for call in (dense(), apart([0, 1, 0, 1, 0, 1])) + tuple(table(side, k) for side, k in SIDES_AND_ORDERS):
            self.assertEqual(last(*begin, call), answer)
        self.assertEqual(last(*begin, packed(0, 0)), told([[1, 1]] * 4 + [[1, 0]]))
        self.assertEqual(last(*begin, packed(1, 0)), told([[1, 1, 1, 1, 0, 1], [0, 1, 1, 1, 1, 0]]))
