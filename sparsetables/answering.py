"""The calls one by one: each looks at what is handed in, refuses it or answers it.

Each gets what is held, the call's whole numbers, and its rows.
"""

from sparsetables.exact import read_fractions
from sparsetables.linecode import split_lines, uses_are_there
from sparsetables.pattern import entry_columns
from sparsetables.refusals import OutOfRange, TooMany, UseNotThere, WrongForm
from sparsetables.running import NO_FAULT, run
from sparsetables.sides import COLUMN_SIDE, NUMBER_ORDER, ROW_SIDE, TAKEN_AWAY_ORDER
from sparsetables.sides import colour_count, first_clash, meeting_pairs, ordered_columns, told_colours

MOST_INPUTS = 12
MOST_LINES = 80
MOST_OUTS = 12
GREATEST_COLOUR = 99


def within(number, least, greatest):
    return least <= number and number <= greatest


def need_side(side):
    if not within(side, COLUMN_SIDE, ROW_SIDE):
        raise OutOfRange()


def need_order(order):
    if not within(order, NUMBER_ORDER, TAKEN_AWAY_ORDER):
        raise OutOfRange()


def need_outs(outs, how_many_lines):
    if not within(len(outs), 1, MOST_OUTS):
        raise WrongForm()
    if not all([within(out, 0, how_many_lines - 1) for out in outs]):
        raise WrongForm()


def need_colours(colours, how_many_columns):
    if len(colours) != how_many_columns:
        raise WrongForm()
    if not all([within(colour, 0, GREATEST_COLOUR) for colour in colours]):
        raise WrongForm()


def answer_code(held, wholes, rows):
    inputs = wholes[0]
    if not within(inputs, 0, MOST_INPUTS):
        raise OutOfRange()
    lines = split_lines(rows[0])
    if len(lines) > MOST_LINES:
        raise TooMany()
    if not uses_are_there(lines, inputs):
        raise UseNotThere()
    need_outs(rows[1], len(lines))
    held.take_program(inputs, lines, rows[1])
    return [len(lines)]


def answer_point(held, wholes, rows):
    point = read_fractions(rows[0], held.inputs)
    held.take_point(point)
    ran = run(held.lines, point)
    if ran[1] == NO_FAULT:
        return [0]
    return [1, len(ran[0]), ran[1]]


def answer_pattern(held, wholes, rows):
    answer = [len(held.outs), held.inputs]
    for row in held.pattern():
        columns = entry_columns(row)
        answer.append(len(columns))
        answer.extend(columns)
    return answer


def answer_meets(held, wholes, rows):
    need_side(wholes[0])
    pairs = meeting_pairs(held.columns_met(wholes[0]))
    answer = [len(pairs)]
    for pair in pairs:
        answer.extend(pair)
    return answer


def answer_order(held, wholes, rows):
    need_side(wholes[0])
    need_order(wholes[1])
    columns = ordered_columns(held.columns_met(wholes[0]), wholes[1])
    return [len(columns)] + columns


def answer_colours(held, wholes, rows):
    need_side(wholes[0])
    need_order(wholes[1])
    colours = told_colours(held.columns_met(wholes[0]), wholes[1])
    return [colour_count(colours), len(colours)] + colours


def answer_check(held, wholes, rows):
    need_side(wholes[0])
    met = held.columns_met(wholes[0])
    need_colours(rows[0], len(met))
    clash = first_clash(met, rows[0])
    if clash is None:
        return [1]
    return [0, clash[0], clash[1]]


# By the calls' numbers.
ANSWERING = {
    0: answer_code,
    1: answer_point,
    2: answer_pattern,
    3: answer_meets,
    4: answer_order,
    5: answer_colours,
    6: answer_check,
}


def answer_call(held, number, wholes, rows):
    answering = ANSWERING[number]
    try:
        return answering(held, wholes, rows)
    except OutOfRange:
        return [-1]
    except WrongForm:
        return [-2]
    except UseNotThere:
        return [-3]
    except TooMany:
        return [-7]
