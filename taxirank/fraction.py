"""Fractions that are never below 0: pairs (above, below) in lowest terms, the one below above 0."""

ZERO = (0, 1)
ONE = (1, 1)


def common_divisor(first, second):
    left = first
    right = second
    while right > 0:
        rest = left % right
        left = right
        right = rest
    return left


def lowest(above, below):
    divisor = common_divisor(above, below)
    return (above // divisor, below // divisor)


def plus(x, y):
    return lowest(x[0] * y[1] + y[0] * x[1], x[1] * y[1])


def minus(x, y):
    return lowest(x[0] * y[1] - y[0] * x[1], x[1] * y[1])


def times(x, y):
    return lowest(x[0] * y[0], x[1] * y[1])


def divided(x, y):
    return lowest(x[0] * y[1], x[1] * y[0])


def is_below(x, y):
    return x[0] * y[1] < y[0] * x[1]


def rounded_down(x):
    return x[0] // x[1]
