"""The calls once more, written another way: with Python's own fractions, sets and sorting."""

from fractions import Fraction
from itertools import combinations


def weight(value):
    return sum(len(f"{number:b}") for number in (abs(value.numerator), value.denominator) if number)


def work_out(line, values, inputs):
    kind, first, second = (tuple(line) + (0,))[:3]
    if kind == 0:
        return inputs[first]
    if kind == 1:
        return Fraction(first, second)
    if kind == 6:
        return -values[first]
    a, b = values[first], values[second]
    return (lambda: a + b, lambda: a - b, lambda: a * b, lambda: a / b)[kind - 2]()


def point(lines, inputs):
    values = []
    for number, line in enumerate(lines):
        try:
            values.append(work_out(line, values, inputs))
        except ZeroDivisionError:
            return [1, number, 1]
        if weight(values[-1]) > 200:
            return [1, number, 2]
    return [0]


def hangs(lines, outs):
    on = []
    for line in lines:
        on.append({line[1]} if line[0] == 0 else set())
        if line[0] > 1:
            on[-1] = set().union(*[on[part] for part in line[1:]])
    return [on[out] for out in outs]


def pattern(lines, outs, n):
    told = [len(outs), n]
    for columns in hangs(lines, outs):
        told += [len(columns)] + sorted(columns)
    return told


def row_of(lines, values, out, n):
    """The out's row of the table, worked out backwards: how much of each line's change comes into the out's."""
    share = [Fraction(int(number == out)) for number in range(len(lines))]
    row = [Fraction(0)] * n
    for number in range(out, -1, -1):
        kind, first, second = (tuple(lines[number]) + (0,))[:3]
        mine = share[number]
        if kind == 0:
            row[first] += mine
        elif kind == 6:
            share[first] -= mine
        elif kind > 1:
            a, b = values[first], values[second]
            by_first, by_second = {2: (1, 1), 3: (1, -1), 4: (b, a)}.get(kind) or (1 / b, -a / b ** 2)
            share[first] += mine * by_first
            share[second] += mine * by_second
    return row


def whole(lines, inputs, outs):
    """The program's table; it is only asked where the run has no fault."""
    values = []
    for line in lines:
        values.append(work_out(line, values, inputs))
    return [row_of(lines, values, out, len(inputs)) for out in outs]


def turned(rows, n):
    return [[row[k] for row in rows] for k in range(n)]


def told(rows, columns):
    entries = [entry for row in rows for entry in row]
    if any(weight(entry) > 4000 for entry in entries):
        return [-6]
    return [len(rows), columns] + [number for entry in entries for number in (entry.numerator, entry.denominator)]


def packed_rows(rows, n, given):
    """By linearity a packed table is the table with its rows (or columns, where it is turned) added up."""
    colours = range(max(given, default=-1) + 1)
    return [[sum((row[k] for row, its in zip(rows, given) if its == c), Fraction(0)) for k in range(n)]
            for c in colours]


def packed(rows, n, side, given):
    if side:
        return told(packed_rows(rows, n, given), n)
    colours = max(given, default=-1) + 1
    return told(turned(packed_rows(turned(rows, n), len(rows), given), len(rows)), colours)


class Side:
    def __init__(self, lines, outs, n, side):
        rows = hangs(lines, outs)
        self.entries = rows if side else [{r for r, row in enumerate(rows) if k in row} for k in range(n)]
        self.size = len(self.entries)
        self.pairs = [p for p in combinations(range(self.size), 2) if self.entries[p[0]] & self.entries[p[1]]]

    def met(self, column, among):
        return {a + b - column for a, b in self.pairs if column in (a, b)} & set(among)

    def meets(self):
        return [len(self.pairs)] + [number for pair in self.pairs for number in pair]

    def columns(self, k):
        everything = range(self.size)
        if k == 0:
            return list(everything)
        if k == 1:
            return sorted(everything, key=lambda c: (-len(self.met(c, everything)), c))
        left, came = set(everything), []
        while left:
            came.insert(0, min(left, key=lambda c: (len(self.met(c, left)), -c)))
            left.discard(came[0])
        return came

    def order(self, k):
        return [self.size] + self.columns(k)

    def colours(self, k):
        given = {}
        for column in self.columns(k):
            near = {given[other] for other in self.met(column, given)}
            given[column] = min(set(range(self.size + 1)) - near)
        return [len(set(given.values())), self.size] + [given[column] for column in range(self.size)]

    def check(self, given):
        clashes = [[0, a, b] for a, b in self.pairs if given[a] == given[b]]
        return clashes[0] if clashes else [1]

    def least(self):
        """By sets of columns: each needs one colour more than what is left without some that don't meet."""
        if self.size > 8:
            return [-7]
        some = [frozenset(c) for size in range(1, self.size + 1) for c in combinations(range(self.size), size)]
        alike = [part for part in some if not any(part.issuperset(pair) for pair in self.pairs)]
        needs = {frozenset(): 0}
        for columns in some:
            needs[columns] = 1 + min(needs[columns - part] for part in alike if part <= columns)
        return [needs[frozenset(range(self.size))]]


def plan(sides):
    choices = [(side, k, sides[side].colours(k)[0]) for side in (0, 1) for k in (0, 1, 2)]
    return list(min(choices, key=lambda choice: choice[2]))
