"""Many programs, always the same ones, answered by the package and by the model."""

import random
import unittest
from fractions import Fraction

from tests import model
from tests.asking import ask, check, code, colours, meets, order, pattern, point


def some_lines(chance, n, how_many):
    # Without quotients and with near lines drawn, values grow heavy and rows long.
    kinds = chance.choice(((0, 0, 1, 2, 3, 4, 5, 6), (0, 1, 2, 4, 4, 4, 6)))
    near = chance.choice((1, 3, 80))
    lines = []
    for number in range(how_many):
        kind = chance.choice(kinds) if number else 0
        first, second = [chance.randrange(max(0, number - near), max(1, number)) for part in range(2)]
        if kind == 0 and n:
            lines.append((0, chance.randrange(n)))
        elif kind < 2:
            lines.append((1, chance.randint(-9, 9), chance.randint(1, 9)))
        elif kind == 6:
            lines.append((6, first))
        else:
            lines.append((kind, first, second))
    return lines


class AgainstTheModel(unittest.TestCase):
    def compare(self, seed):
        chance = random.Random(seed)
        n = chance.randint(0, 12)
        lines = some_lines(chance, n, chance.choice((1, 5, 12, 30, 80)))
        outs = [chance.randrange(len(lines)) for number in range(chance.randint(1, 12))]
        fractions = [number for k in range(n) for number in (chance.randint(-20, 20), chance.randint(1, 20))]
        calls = [code(n, [number for line in lines for number in line], outs), point(fractions), pattern()]
        told = [[len(lines)], model.point(lines, [Fraction(*fractions[k:k + 2]) for k in range(0, 2 * n, 2)]),
                model.pattern(lines, outs, n)]
        for side in (0, 1):
            its = model.Side(lines, outs, n, side)
            given = [chance.randrange(chance.choice((1, 5, 100))) for column in range(its.size)]
            calls += [meets(side)] + [order(side, k) for k in range(3)] + [colours(side, k) for k in range(3)]
            told += [its.meets()] + [its.order(k) for k in range(3)] + [its.colours(k) for k in range(3)]
            calls.append(check(side, given))
            told.append(its.check(given))
        self.assertEqual(ask(*calls), told, seed)
        return told[1]

    def test_many_programs(self):
        ends = {tuple(told[:1] + told[2:]) for told in map(self.compare, range(600))}
        # Else the programs would show too little of runs.
        self.assertEqual(ends, {(0,), (1, 1), (1, 2)})
