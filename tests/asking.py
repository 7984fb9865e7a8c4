"""Writes calls down as numbers, asks them in one list, and splits the answers up again."""

from fractions import Fraction

from sparsetables.tables import answers

GREATEST = 10 ** 18


def code(n, lines, outs):
    return [0, n, len(lines)] + list(lines) + [len(outs)] + list(outs)


def point(fractions):
    return [1, len(fractions)] + list(fractions)


def pattern():
    return [2]


def meets(side):
    return [3, side]


def order(side, k):
    return [4, side, k]


def colours(side, k):
    return [5, side, k]


def check(side, given):
    return [6, side, len(given)] + list(given)


def least(side):
    return [7, side]


def plan():
    return [8]


def dense():
    return [9]


def packed(side, k):
    return [10, side, k]


def table(side, k):
    return [11, side, k]


def apart(given):
    return [12, len(given)] + list(given)


def told(rows):
    """What is answered for a table of these rows of whole numbers and Fractions; it has at least one row."""
    numbers = [len(rows), len(rows[0])]
    for row in rows:
        for entry in row:
            numbers += [Fraction(entry).numerator, Fraction(entry).denominator]
    return numbers


def ask(*calls):
    """The answers to these calls, made on one new object: a list for each call."""
    told = answers([number for call in calls for number in call])
    split = []
    place = 0
    while place < len(told):
        end = place + 1 + told[place]
        split.append(told[place + 1:end])
        place = end
    if place != len(told) or len(split) != len(calls):
        raise AssertionError(f"{len(calls)} calls were answered by {told}")
    return split


def last(*calls):
    return ask(*calls)[-1]


def program_with(rows, n):
    """The call of a program whose out r hangs on just the inputs rows[r].

    Lines 0 to n - 1 are the inputs and line n is a constant; sums make up the rest.
    """
    lines = [number for k in range(n) for number in (0, k)] + [1, 1, 1]
    how_many = n + 1
    outs = []
    for row in rows:
        out = n
        for k in row:
            lines += [2, out, k]
            out = how_many
            how_many += 1
        outs.append(out)
    return code(n, lines, outs)
