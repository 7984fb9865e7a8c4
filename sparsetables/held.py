"""What the calls work on: a program, and a point or none."""

from sparsetables.pattern import pattern_rows
from sparsetables.sides import meeting_columns, side_entries


class Held:
    def __init__(self):
        self.inputs = 0
        self.lines = []
        self.outs = []
        self.point = None

    def take_program(self, inputs, lines, outs):
        self.inputs = inputs
        self.lines = lines
        self.outs = outs
        self.point = None

    def take_point(self, point):
        self.point = point

    def pattern(self):
        return pattern_rows(self.inputs, self.lines, self.outs)

    def columns_met(self, side):
        return meeting_columns(side_entries(self.pattern(), self.inputs, side))
