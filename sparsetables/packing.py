"""The table, packed tables, and telling them apart: each table is a list of rows of fractions."""

from sparsetables.changes import line_changes
from sparsetables.exact import NOUGHT, ONE, plus
from sparsetables.sides import ROW_SIDE, colour_count


def whole_table(held, values):
    # Packing with a colour for each input moves no two of them at once.
    return packed_by_columns(held, values, list(range(held.inputs)))


def packed_table(held, values, side, colours):
    if side == ROW_SIDE:
        return packed_by_rows(held, values, colours)
    return packed_by_columns(held, values, colours)


def packed_by_columns(held, values, colours):
    columns = [out_changes(held, values, direction) for direction in colour_directions(colours)]
    return [[column[row] for column in columns] for row in range(len(held.outs))]


def colour_directions(colours):
    return [colour_direction(colours, colour) for colour in range(colour_count(colours))]


def colour_direction(colours, moved):
    return [ONE if colour == moved else NOUGHT for colour in colours]


def out_changes(held, values, direction):
    changes = line_changes(held.lines, values, direction)
    return [changes[out] for out in held.outs]


def packed_by_rows(held, values, colours):
    table = whole_table(held, values)
    packed = []
    for summed in range(colour_count(colours)):
        rows = [row for row, colour in zip(table, colours) if colour == summed]
        packed.append(sum_of_rows(rows, held.inputs))
    return packed


def sum_of_rows(rows, how_many_columns):
    total = [NOUGHT for column in range(how_many_columns)]
    for row in rows:
        total = [plus(one, other) for one, other in zip(total, row)]
    return total


def told_apart(entries, packed, side, colours):
    table = []
    for row, row_entries in enumerate(entries):
        if side == ROW_SIDE:
            spread = packed[colours[row]]
        else:
            spread = [packed[row][colour] for colour in colours]
        table.append([fraction if entry else NOUGHT for fraction, entry in zip(spread, row_entries)])
    return table
