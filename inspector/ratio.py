"""Fractions as pairs of whole numbers: above, and below, which is 1 or more, with nothing in common."""

ZERO = (0, 1)
ONE = (1, 1)


def greatest_common(first, second):
    while second != 0:
        rest = first % second
        first = second
        second = rest
    return first


def ratio(above, below):
    """The fraction of two whole numbers, the lower of which is 1 or more."""
    shared = greatest_common(abs(above), below)
    return (above // shared, below // shared)


def from_whole(number):
    return (number, 1)


def plus(first, second):
    return ratio(first[0] * second[1] + second[0] * first[1], first[1] * second[1])


def minus(first, second):
    return ratio(first[0] * second[1] - second[0] * first[1], first[1] * second[1])


def times(first, second):
    return ratio(first[0] * second[0], first[1] * second[1])


def divided(first, second):
    """The first by the second, which is above 0."""
    return ratio(first[0] * second[1], first[1] * second[0])


def is_less(first, second):
    return first[0] * second[1] < second[0] * first[1]


def greater(first, second):
    return second if is_less(first, second) else first


def lesser(first, second):
    return first if is_less(first, second) else second


def mixed(chance, first, second):
    """The mean of what's the first with this chance, else the second."""
    return plus(times(chance, first), times(minus(ONE, chance), second))


def told_ratios(ratios):
    """The answer that tells these fractions: 0, then each one's two numbers."""
    numbers = [0]
    for each in ratios:
        numbers.extend(each)
    return numbers
