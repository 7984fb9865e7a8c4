"""The program's one function: the calls in one list of numbers, their answers in another."""

from sparsetables.answering import answer_call
from sparsetables.held import Held

# By the calls' numbers: how many whole numbers stand behind it, then how many rows.
SHAPES = {
    0: (1, 2),
    1: (0, 1),
    2: (0, 0),
    3: (1, 0),
    4: (2, 0),
    5: (2, 0),
    6: (1, 1),
    7: (1, 0),
    8: (0, 0),
    9: (0, 0),
    10: (2, 0),
    11: (2, 0),
    12: (0, 1),
}


class Reader:
    def __init__(self, numbers):
        self.numbers = numbers
        self.place = 0

    def at_end(self):
        return self.place >= len(self.numbers)

    def take_number(self):
        number = self.numbers[self.place]
        self.place += 1
        return number

    def take_numbers(self, how_many):
        begin = self.place
        self.place += how_many
        return self.numbers[begin:self.place]

    def take_row(self):
        return self.take_numbers(self.take_number())


def answers(calls):
    held = Held()
    reader = Reader(calls)
    told = []
    while not reader.at_end():
        answer = answer_next(held, reader)
        told.append(len(answer))
        told.extend(answer)
    return told


# All of a call is read before it is looked at: behind a refused call the next one follows.
def answer_next(held, reader):
    number = reader.take_number()
    shape = SHAPES[number]
    wholes = reader.take_numbers(shape[0])
    rows = [reader.take_row() for place in range(shape[1])]
    return answer_call(held, number, wholes, rows)
