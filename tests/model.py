"""The calls once more, written another way: with Python's own fractions, sets and sorting."""

from fractions import Fraction
from itertools import combinations


def weight(value):
    return sum(len(f"{number:b}") for number in (abs(value.numerator), value.denominator) if number)


def work_out(line, values, inputs):
    kind, first, second = (tuple(line) + (0,))[:3]
    if kind == 0:
        return inputs[first]
    if kind == 1:
        return Fraction(first, second)
    if kind == 6:
        return -values[first]
    a, b = values[first], values[second]
    return (lambda: a + b, lambda: a - b, lambda: a * b, lambda: a / b)[kind - 2]()


def point(lines, inputs):
    values = []
    for number, line in enumerate(lines):
        try:
            values.append(work_out(line, values, inputs))
        except ZeroDivisionError:
            return [1, number, 1]
        if weight(values[-1]) > 200:
            return [1, number, 2]
    return [0]


def hangs(lines, outs):
    on = []
    for line in lines:
        on.append({line[1]} if line[0] == 0 else set())
        if line[0] > 1:
            on[-1] = set().union(*[on[part] for part in line[1:]])
    return [on[out] for out in outs]


def pattern(lines, outs, n):
    told = [len(outs), n]
    for columns in hangs(lines, outs):
        told += [len(columns)] + sorted(columns)
    return told


class Side:
    def __init__(self, lines, outs, n, side):
        rows = hangs(lines, outs)
        self.entries = rows if side else [{r for r, row in enumerate(rows) if k in row} for k in range(n)]
        self.size = len(self.entries)
        self.pairs = [p for p in combinations(range(self.size), 2) if self.entries[p[0]] & self.entries[p[1]]]

    def met(self, column, among):
        return {a + b - column for a, b in self.pairs if column in (a, b)} & set(among)

    def meets(self):
        return [len(self.pairs)] + [number for pair in self.pairs for number in pair]

    def columns(self, k):
        everything = range(self.size)
        if k == 0:
            return list(everything)
        if k == 1:
            return sorted(everything, key=lambda c: (-len(self.met(c, everything)), c))
        left, came = set(everything), []
        while left:
            came.insert(0, min(left, key=lambda c: (len(self.met(c, left)), -c)))
            left.discard(came[0])
        return came

    def order(self, k):
        return [self.size] + self.columns(k)

    def colours(self, k):
        given = {}
        for column in self.columns(k):
            near = {given[other] for other in self.met(column, given)}
            given[column] = min(set(range(self.size + 1)) - near)
        return [len(set(given.values())), self.size] + [given[column] for column in range(self.size)]

    def check(self, given):
        clashes = [[0, a, b] for a, b in self.pairs if given[a] == given[b]]
        return clashes[0] if clashes else [1]
