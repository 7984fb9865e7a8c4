"""The calls one by one: each looks at what is handed in, refuses it or answers it.

Each gets what is held, the call's whole numbers, and its rows.
"""

from sparsetables.exact import read_fractions, weight
from sparsetables.linecode import split_lines, uses_are_there
from sparsetables.packing import packed_table, told_apart, whole_table
from sparsetables.pattern import entry_columns
from sparsetables.refusals import NoPoint, NotProper, OutOfRange, RunFault, TooHeavy, TooMany, UseNotThere, WrongForm
from sparsetables.running import NO_FAULT, run
from sparsetables.sides import COLUMN_SIDE, MOST_MET_ORDER, NUMBER_ORDER, ROW_SIDE, TAKEN_AWAY_ORDER
from sparsetables.sides import colour_count, fewest_colours, first_clash, meeting_pairs, ordered_columns, told_colours

MOST_INPUTS = 12
MOST_LINES = 80
MOST_OUTS = 12
GREATEST_COLOUR = 99
MOST_COLUMNS_FOR_LEAST = 8
MOST_TOLD_WEIGHT = 4000


def within(number, least, greatest):
    return least <= number and number <= greatest


def need_side(side):
    if not within(side, COLUMN_SIDE, ROW_SIDE):
        raise OutOfRange()


def need_order(order):
    if not within(order, NUMBER_ORDER, TAKEN_AWAY_ORDER):
        raise OutOfRange()


def need_outs(outs, how_many_lines):
    if not within(len(outs), 1, MOST_OUTS):
        raise WrongForm()
    if not all([within(out, 0, how_many_lines - 1) for out in outs]):
        raise WrongForm()


def need_colours(colours, how_many_columns):
    if len(colours) != how_many_columns:
        raise WrongForm()
    if not all([within(colour, 0, GREATEST_COLOUR) for colour in colours]):
        raise WrongForm()


# The values of the lines at the point that is held.
def need_values(held):
    if held.point is None:
        raise NoPoint()
    ran = run(held.lines, held.point)
    if ran[1] != NO_FAULT:
        raise RunFault()
    return ran[0]


def tell_table(table, how_many_columns):
    told = [len(table), how_many_columns]
    for row in table:
        for fraction in row:
            if weight(fraction) > MOST_TOLD_WEIGHT:
                raise TooHeavy()
            told.extend(fraction)
    return told


def answer_code(held, wholes, rows):
    inputs = wholes[0]
    if not within(inputs, 0, MOST_INPUTS):
        raise OutOfRange()
    lines = split_lines(rows[0])
    if len(lines) > MOST_LINES:
        raise TooMany()
    if not uses_are_there(lines, inputs):
        raise UseNotThere()
    need_outs(rows[1], len(lines))
    held.take_program(inputs, lines, rows[1])
    return [len(lines)]


def answer_point(held, wholes, rows):
    point = read_fractions(rows[0], held.inputs)
    held.take_point(point)
    ran = run(held.lines, point)
    if ran[1] == NO_FAULT:
        return [0]
    return [1, len(ran[0]), ran[1]]


def answer_pattern(held, wholes, rows):
    answer = [len(held.outs), held.inputs]
    for row in held.pattern():
        columns = entry_columns(row)
        answer.append(len(columns))
        answer.extend(columns)
    return answer


def answer_meets(held, wholes, rows):
    need_side(wholes[0])
    pairs = meeting_pairs(held.columns_met(wholes[0]))
    answer = [len(pairs)]
    for pair in pairs:
        answer.extend(pair)
    return answer


def answer_order(held, wholes, rows):
    need_side(wholes[0])
    need_order(wholes[1])
    columns = ordered_columns(held.columns_met(wholes[0]), wholes[1])
    return [len(columns)] + columns


def answer_colours(held, wholes, rows):
    need_side(wholes[0])
    need_order(wholes[1])
    colours = told_colours(held.columns_met(wholes[0]), wholes[1])
    return [colour_count(colours), len(colours)] + colours


def answer_check(held, wholes, rows):
    need_side(wholes[0])
    met = held.columns_met(wholes[0])
    need_colours(rows[0], len(met))
    clash = first_clash(met, rows[0])
    if clash is None:
        return [1]
    return [0, clash[0], clash[1]]


def answer_least(held, wholes, rows):
    need_side(wholes[0])
    met = held.columns_met(wholes[0])
    if len(met) > MOST_COLUMNS_FOR_LEAST:
        raise TooMany()
    return [fewest_colours(met)]


def answer_plan(held, wholes, rows):
    plans = []
    for side in (COLUMN_SIDE, ROW_SIDE):
        met = held.columns_met(side)
        for order in (NUMBER_ORDER, MOST_MET_ORDER, TAKEN_AWAY_ORDER):
            plans.append((colour_count(told_colours(met, order)), side, order))
    # Tuples are compared from their front: of equally few colours the first plan is the least.
    fewest = min(plans)
    return [fewest[1], fewest[2], fewest[0]]


def answer_dense(held, wholes, rows):
    return tell_table(whole_table(held, need_values(held)), held.inputs)


def answer_packed(held, wholes, rows):
    need_side(wholes[0])
    need_order(wholes[1])
    values = need_values(held)
    colours = told_colours(held.columns_met(wholes[0]), wholes[1])
    packed = packed_table(held, values, wholes[0], colours)
    return tell_table(packed, held.inputs if wholes[0] == ROW_SIDE else colour_count(colours))


def answer_table(held, wholes, rows):
    need_side(wholes[0])
    need_order(wholes[1])
    values = need_values(held)
    colours = told_colours(held.columns_met(wholes[0]), wholes[1])
    return tell_packed_apart(held, values, wholes[0], colours)


def answer_apart(held, wholes, rows):
    need_colours(rows[0], held.inputs)
    values = need_values(held)
    if first_clash(held.columns_met(COLUMN_SIDE), rows[0]) is not None:
        raise NotProper()
    return tell_packed_apart(held, values, COLUMN_SIDE, rows[0])


def tell_packed_apart(held, values, side, colours):
    packed = packed_table(held, values, side, colours)
    return tell_table(told_apart(held.pattern(), packed, side, colours), held.inputs)


# By the calls' numbers.
ANSWERING = {
    0: answer_code,
    1: answer_point,
    2: answer_pattern,
    3: answer_meets,
    4: answer_order,
    5: answer_colours,
    6: answer_check,
    7: answer_least,
    8: answer_plan,
    9: answer_dense,
    10: answer_packed,
    11: answer_table,
    12: answer_apart,
}


def answer_call(held, number, wholes, rows):
    answering = ANSWERING[number]
    try:
        return answering(held, wholes, rows)
    except OutOfRange:
        return [-1]
    except WrongForm:
        return [-2]
    except UseNotThere:
        return [-3]
    except NoPoint:
        return [-4]
    except RunFault:
        return [-5]
    except TooHeavy:
        return [-6]
    except TooMany:
        return [-7]
    except NotProper:
        return [-8]
