"""Many programs, always the same ones, answered by the package and by the model."""

import random
import unittest
from fractions import Fraction

from tests import model
from tests.asking import apart, ask, check, code, colours, dense, least, meets, order, packed, pattern, plan, point
from tests.asking import table


def some_lines(chance, n, how_many):
    # Without quotients and with near lines drawn, values grow heavy and rows long.
    kinds = chance.choice(((0, 0, 1, 2, 3, 4, 5, 6), (0, 1, 2, 4, 4, 4, 6)))
    near = chance.choice((1, 3, 80))
    lines = []
    for number in range(how_many):
        kind = chance.choice(kinds) if number else 0
        first, second = [chance.randrange(max(0, number - near), max(1, number)) for part in range(2)]
        if kind == 0 and n:
            lines.append((0, chance.randrange(n)))
        elif kind < 2:
            lines.append((1, chance.randint(-9, 9), chance.randint(1, 9)))
        elif kind == 6:
            lines.append((6, first))
        else:
            lines.append((kind, first, second))
    return lines


class Drawn:
    """One program with its point, and colourings of both sides."""

    def __init__(self, seed):
        chance = random.Random(seed)
        self.n = chance.randint(0, 12)
        self.lines = some_lines(chance, self.n, chance.choice((1, 5, 12, 30, 80)))
        self.outs = [chance.randrange(len(self.lines)) for number in range(chance.randint(1, 12))]
        self.fractions = [number for k in range(self.n) for number in (chance.randint(-20, 20), chance.randint(1, 20))]
        self.inputs = [Fraction(*self.fractions[k:k + 2]) for k in range(0, 2 * self.n, 2)]
        self.sides = [model.Side(self.lines, self.outs, self.n, side) for side in (0, 1)]
        self.given = [[chance.randrange(chance.choice((1, 5, 100))) for column in range(its.size)]
                      for its in self.sides]

    def begin(self):
        return [code(self.n, [number for line in self.lines for number in line], self.outs), point(self.fractions)]


class AgainstTheModel(unittest.TestCase):
    def compare(self, seed):
        drawn = Drawn(seed)
        ran = model.point(drawn.lines, drawn.inputs)
        calls = drawn.begin() + [pattern(), plan()]
        told = [[len(drawn.lines)], ran, model.pattern(drawn.lines, drawn.outs, drawn.n), model.plan(drawn.sides)]
        for side, its in enumerate(drawn.sides):
            calls += [meets(side)] + [order(side, k) for k in range(3)] + [colours(side, k) for k in range(3)]
            told += [its.meets()] + [its.order(k) for k in range(3)] + [its.colours(k) for k in range(3)]
            calls += [check(side, drawn.given[side]), least(side)]
            told += [its.check(drawn.given[side]), its.least()]
        self.assertEqual(ask(*calls), told, seed)
        return ran

    def compare_tables(self, seed):
        drawn = Drawn(seed)
        calls, told = [dense()], []
        fault = model.point(drawn.lines, drawn.inputs) != [0]
        rows = [] if fault else model.whole(drawn.lines, drawn.inputs, drawn.outs)
        whole = [-5] if fault else model.told(rows, drawn.n)
        told.append(whole)
        for side, its in enumerate(drawn.sides):
            for k in range(3):
                calls += [packed(side, k), table(side, k)]
                told += [[-5] if fault else model.packed(rows, drawn.n, side, its.colours(k)[2:]), whole]
        proper = [99 - colour for colour in drawn.sides[0].colours(seed % 3)[2:]]
        for given in (drawn.given[0], proper):
            calls.append(apart(given))
            told.append(whole if fault or drawn.sides[0].check(given) == [1] else [-8])
        self.assertEqual(ask(*drawn.begin(), *calls)[2:], told, seed)
        return told

    def test_many_programs(self):
        ends = {tuple(told[:1] + told[2:]) for told in map(self.compare, range(600))}
        # Else the programs would show too little of runs.
        self.assertEqual(ends, {(0,), (1, 1), (1, 2)})

    def test_many_tables(self):
        refusals = {answer[0] for told in map(self.compare_tables, range(600)) for answer in told if answer[0] < 0}
        self.assertEqual(refusals, {-5, -8})
