"""Fractions, as tuples of an upper and a lower number with nothing in common, the lower one 1 or more."""

ZERO = (0, 1)
ONE = (1, 1)


def common(first, second):
    """The greatest number that divides both."""
    while second != 0:
        rest = first % second
        first = second
        second = rest
    return first


def ratio(upper, lower):
    """The fraction of two numbers, the lower one 1 or more."""
    shared = common(abs(upper), lower)
    return (upper // shared, lower // shared)


def whole(number):
    return (number, 1)


def plus(first, second):
    return ratio(first[0] * second[1] + second[0] * first[1], first[1] * second[1])


def minus(first, second):
    return ratio(first[0] * second[1] - second[0] * first[1], first[1] * second[1])


def times(first, second):
    return ratio(first[0] * second[0], first[1] * second[1])


def divided(first, second):
    """The first by the second, which is more than 0."""
    return ratio(first[0] * second[1], first[1] * second[0])


def unsigned(fraction):
    return (abs(fraction[0]), fraction[1])


def less(first, second):
    return first[0] * second[1] < second[0] * first[1]


def weighed(fractions, weights):
    """Each fraction times its weight, a whole number, all together."""
    together = ZERO
    for fraction, weight in zip(fractions, weights):
        together = plus(together, times(fraction, whole(weight)))
    return together


def mean(fractions, weights):
    """The fractions' mean by their weights, some of which are above 0."""
    return divided(weighed(fractions, weights), whole(sum(weights)))
