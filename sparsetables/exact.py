"""Exact fractions: tuples of a numerator and a denominator, always in lowest terms."""

from sparsetables.refusals import WrongForm


def common_divisor(first, second):
    while second != 0:
        rest = first % second
        first = second
        second = rest
    return first


def lowest_terms(top, bottom):
    divisor = common_divisor(abs(top), abs(bottom))
    # Dividing by a fraction below 0 brings its sign into the denominator.
    if bottom < 0:
        divisor = -divisor
    return (top // divisor, bottom // divisor)


def plus(first, second):
    return lowest_terms(first[0] * second[1] + second[0] * first[1], first[1] * second[1])


def opposite(fraction):
    return (-fraction[0], fraction[1])


def minus(first, second):
    return plus(first, opposite(second))


def times(first, second):
    return lowest_terms(first[0] * second[0], first[1] * second[1])


def over(first, second):
    return lowest_terms(first[0] * second[1], first[1] * second[0])


def weight(fraction):
    return abs(fraction[0]).bit_length() + fraction[1].bit_length()


def read_fractions(numbers, how_many):
    if len(numbers) != 2 * how_many:
        raise WrongForm()
    fractions = []
    for place in range(0, len(numbers), 2):
        if numbers[place + 1] < 1:
            raise WrongForm()
        fractions.append(lowest_terms(numbers[place], numbers[place + 1]))
    return fractions
