"""The document's law reckoned anew, in Python's own fractions, so that nothing of the program tells it."""

from fractions import Fraction
from math import lcm

from asking import LINES


def fractions_carried(carried):
    return [Fraction(*line) if isinstance(line, tuple) else Fraction(line) for line in carried]


def solved(rows):
    """What each number is, by rows of factors with what they come to behind them."""
    rows = [list(row) for row in rows]
    count = len(rows)
    for k in range(count):
        at = next(i for i in range(k, count) if rows[i][k] != 0)
        rows[k], rows[at] = rows[at], rows[k]
        rows[k] = [x / rows[k][k] for x in rows[k]]
        for i in range(count):
            if i != k and rows[i][k] != 0:
                rows[i] = [x - rows[i][k] * y for x, y in zip(rows[i], rows[k])]
    return [row[count:] for row in rows]


def inside_by_each(n, carried):
    """For each place inside: its voltage by voltage 1 at each place of the edge, and 0 at all others."""
    edge, count = 4 * n, n * n
    rows = [[Fraction(0)] * (count + edge) for place in range(count)]
    for (one, other), line in zip(LINES[n], fractions_carried(carried)):
        for here, there in ((one, other), (other, one)):
            if here >= edge:
                rows[here - edge][here - edge] += line
                if there >= edge:
                    rows[here - edge][there - edge] -= line
                else:
                    rows[here - edge][count + there] += line
    return solved(rows)


def inside(n, carried, voltages):
    return [sum(x * voltage for x, voltage in zip(row, voltages)) for row in inside_by_each(n, carried)]


def flows(n, carried, voltages):
    """What flows in at each place of the edge."""
    everywhere = list(voltages) + inside(n, carried, voltages)
    flowing = [Fraction(0)] * len(everywhere)
    for (one, other), line in zip(LINES[n], fractions_carried(carried)):
        along = line * (everywhere[one] - everywhere[other])
        flowing[one] += along
        flowing[other] -= along
    return flowing[:4 * n]


def table(n, carried):
    """What is seen between each two places of the edge: 0 and 1, 0 and 2, and so on, the lesser first."""
    edge = 4 * n
    by_each = inside_by_each(n, carried)
    flowing = [[Fraction(0)] * edge for place in range(edge)]
    for (one, other), line in zip(LINES[n], fractions_carried(carried)):
        for here, there in ((one, other), (other, one)):
            if here < edge:
                for j in range(edge):
                    flowing[here][j] += line * ((here == j) - by_each[there - edge][j])
    return [-flowing[i][j] for i in range(edge) for j in range(i + 1, edge)]


def over_one(fractions):
    """Fractions brought over one number: that number, then the upper ones."""
    e = lcm(*[fraction.denominator for fraction in fractions])
    return e, [int(fraction * e) for fraction in fractions]
