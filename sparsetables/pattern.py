"""The pattern: for each out, whether it hangs on each input."""

from sparsetables.linecode import INPUT, parts


def hanging(inputs, lines):
    hangs = []
    for line in lines:
        hangs.append([line_hangs(line, column, hangs) for column in range(inputs)])
    return hangs


def line_hangs(line, column, hangs):
    if line[0] == INPUT:
        return line[1] == column
    return any([hangs[part][column] for part in parts(line)])


def pattern_rows(inputs, lines, outs):
    hangs = hanging(inputs, lines)
    return [hangs[out] for out in outs]


def entry_columns(row):
    return [column for column, entry in enumerate(row) if entry]
