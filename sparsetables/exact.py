"""Exact fractions: tuples of a numerator and a denominator, always in lowest terms."""

from sparsetables.refusals import WrongForm

NOUGHT = (0, 1)
ONE = (1, 1)


def common_divisor(first, second):
    while second != 0:
        rest = first % second
        first = second
        second = rest
    return first


def lowest_terms(top, bottom):
    divisor = common_divisor(abs(top), bottom)
    return (top // divisor, bottom // divisor)


def plus(first, second):
    shared = common_divisor(first[1], second[1])
    top = first[0] * (second[1] // shared) + second[0] * (first[1] // shared)
    # Of both denominators' product only what they share can have more in common with the top.
    rest = common_divisor(abs(top), shared)
    return (top // rest, first[1] // shared * (second[1] // rest))


def opposite(fraction):
    return (-fraction[0], fraction[1])


def minus(first, second):
    return plus(first, opposite(second))


def times(first, second):
    # Crosswise ahead of the products: heavy numbers are then only divided by light ones.
    one = lowest_terms(first[0], second[1])
    other = lowest_terms(second[0], first[1])
    return (one[0] * other[0], one[1] * other[1])


def turned_over(fraction):
    if fraction[0] < 0:
        return (-fraction[1], -fraction[0])
    return (fraction[1], fraction[0])


def over(first, second):
    return times(first, turned_over(second))


def weight(fraction):
    return abs(fraction[0]).bit_length() + fraction[1].bit_length()


def read_fractions(numbers, how_many):
    if len(numbers) != 2 * how_many:
        raise WrongForm()
    fractions = []
    for place in range(0, len(numbers), 2):
        if numbers[place + 1] < 1:
            raise WrongForm()
        fractions.append(lowest_terms(numbers[place], numbers[place + 1]))
    return fractions
