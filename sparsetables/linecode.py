"""Line code: a list of numbers read as lines, each a tuple of its kind and its numbers."""

from sparsetables.refusals import WrongForm

INPUT = 0
CONSTANT = 1
SUM = 2
DIFFERENCE = 3
PRODUCT = 4
QUOTIENT = 5
OPPOSITE = 6

# How many numbers stand behind each kind.
NUMBERS_BEHIND = (1, 2, 2, 2, 2, 2, 1)


def split_lines(numbers):
    lines = []
    place = 0
    while place < len(numbers):
        line = line_at(numbers, place)
        lines.append(line)
        place += len(line)
    return lines


def line_at(numbers, place):
    kind = numbers[place]
    if kind < INPUT or kind > OPPOSITE:
        raise WrongForm()
    end = place + 1 + NUMBERS_BEHIND[kind]
    if end > len(numbers):
        raise WrongForm()
    line = tuple(numbers[place:end])
    if not well_formed(line):
        raise WrongForm()
    return line


def well_formed(line):
    if line[0] == CONSTANT:
        return line[2] >= 1
    return min(line[1:]) >= 0


def parts(line):
    if line[0] == INPUT or line[0] == CONSTANT:
        return ()
    return line[1:]


def uses_are_there(lines, inputs):
    for number, line in enumerate(lines):
        if line[0] == INPUT and line[1] >= inputs:
            return False
        if any([part >= number for part in parts(line)]):
            return False
    return True
