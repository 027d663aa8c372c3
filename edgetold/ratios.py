"""Fractions: pairs of whole numbers with nothing in common, the lower one 1 or more."""

ZERO = (0, 1)
ONE = (1, 1)


def common_part(a, b):
    part = a
    rest = b
    while rest != 0:
        behind = part % rest
        part = rest
        rest = behind
    return part


def ratio(upper, lower):
    part = common_part(abs(upper), abs(lower))
    # The sign belongs to the upper number alone.
    if lower < 0:
        part = -part
    return (upper // part, lower // part)


def plus(x, y):
    return ratio(x[0] * y[1] + y[0] * x[1], x[1] * y[1])


def minus(x, y):
    return ratio(x[0] * y[1] - y[0] * x[1], x[1] * y[1])


def times(x, y):
    return ratio(x[0] * y[0], x[1] * y[1])


def divided(x, y):
    if y[0] == 0:
        raise ZeroDivisionError("a fraction is divided by 0")
    return ratio(x[0] * y[1], x[1] * y[0])
