"""Changes of lines along a direction, at a point at which the run has no fault."""

from sparsetables.exact import NOUGHT, minus, opposite, over, plus, times
from sparsetables.linecode import CONSTANT, DIFFERENCE, INPUT, OPPOSITE, PRODUCT, SUM


def line_changes(lines, values, direction):
    changes = []
    for line in lines:
        changes.append(line_change(line, values, changes, direction))
    return changes


# The line's own value is the one behind those of the changes so far.
def line_change(line, values, changes, direction):
    kind = line[0]
    if kind == INPUT:
        return direction[line[1]]
    if kind == CONSTANT:
        return NOUGHT
    if kind == OPPOSITE:
        return opposite(changes[line[1]])
    if kind == SUM:
        return plus(changes[line[1]], changes[line[2]])
    if kind == DIFFERENCE:
        return minus(changes[line[1]], changes[line[2]])
    if kind == PRODUCT:
        return product_change(line, values, changes)
    return quotient_change(line, values, changes)


def product_change(line, values, changes):
    by_first = times(changes[line[1]], values[line[2]])
    by_second = times(values[line[1]], changes[line[2]])
    return plus(by_first, by_second)


def quotient_change(line, values, changes):
    quotient = values[len(changes)]
    left = minus(changes[line[1]], times(quotient, changes[line[2]]))
    return over(left, values[line[2]])
