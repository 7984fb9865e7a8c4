"""Running code at a point: its values line by line, up to the first fault."""

from sparsetables.exact import lowest_terms, minus, opposite, over, plus, times, weight
from sparsetables.linecode import CONSTANT, DIFFERENCE, INPUT, OPPOSITE, PRODUCT, QUOTIENT, SUM

NO_FAULT = 0
DIVISOR_FAULT = 1
WEIGHT_FAULT = 2

MOST_WEIGHT = 200


# Gives the values of the lines ahead of the fault, and the fault's number: the line that
# has the fault is the one behind those values.
def run(lines, point):
    values = []
    for line in lines:
        if divides_by_zero(line, values):
            return (values, DIVISOR_FAULT)
        value = line_value(line, values, point)
        if weight(value) > MOST_WEIGHT:
            return (values, WEIGHT_FAULT)
        values.append(value)
    return (values, NO_FAULT)


def divides_by_zero(line, values):
    return line[0] == QUOTIENT and values[line[2]][0] == 0


def line_value(line, values, point):
    kind = line[0]
    if kind == INPUT:
        return point[line[1]]
    if kind == CONSTANT:
        return lowest_terms(line[1], line[2])
    if kind == OPPOSITE:
        return opposite(values[line[1]])
    return joined(kind, values[line[1]], values[line[2]])


def joined(kind, first, second):
    if kind == SUM:
        return plus(first, second)
    if kind == DIFFERENCE:
        return minus(first, second)
    if kind == PRODUCT:
        return times(first, second)
    return over(first, second)
