"""Calls written by name, and answers split call by call."""

from fractions import Fraction

from edgetold.squares import answers

# Written out by hand from the document, so that nothing of the program tells them.
LINES = {
    1: [(3, 4), (4, 1), (0, 4), (4, 2)],
    2: [
        (6, 8), (8, 9), (9, 2),
        (7, 10), (10, 11), (11, 3),
        (0, 8), (8, 10), (10, 4),
        (1, 9), (9, 11), (11, 5),
    ],
    3: [
        (9, 12), (12, 13), (13, 14), (14, 3),
        (10, 15), (15, 16), (16, 17), (17, 4),
        (11, 18), (18, 19), (19, 20), (20, 5),
        (0, 12), (12, 15), (15, 18), (18, 6),
        (1, 13), (13, 16), (16, 19), (19, 7),
        (2, 14), (14, 17), (17, 20), (20, 8),
    ],
}

# Where each place comes to lie when the square is turned a quarter, likewise by hand.
TURNED = {
    1: [1, 2, 3, 0, 4],
    2: [2, 3, 5, 4, 6, 7, 1, 0, 9, 11, 8, 10],
    3: [3, 4, 5, 8, 7, 6, 9, 10, 11, 2, 1, 0, 14, 17, 20, 13, 16, 19, 12, 15, 18],
}

LEAST = -2147483648
MOST = 2147483647


def begin(n):
    return [0, n]


def put(k, a, b):
    return [1, k, a, b]


def line(k):
    return [2, k]


def seen(i, j):
    return [3, i, j]


def row(i):
    return [4, i]


def flow(voltages):
    return [5, len(voltages)] + list(voltages)


def inside(voltages):
    return [6, len(voltages)] + list(voltages)


def wake(k, s):
    return [7, k, s]


def found():
    return [8]


def told(n, e, table):
    return [9, n, e, len(table)] + list(table)


def keep():
    return [10]


def changed():
    return [11]


def turn():
    return [12]


def joined(calls):
    return [number for call in calls for number in call]


def ask(*calls):
    given = answers(joined(calls))
    split = []
    at = 0
    while at < len(given):
        end = at + 1 + given[at]
        split.append(given[at + 1:end])
        at = end
    assert at == len(given), "the last answer is shorter than it says"
    assert len(split) == len(calls), "not one answer for each call"
    return split


def last(*calls):
    return ask(*calls)[-1]


def asked_behind(calls, asked):
    """The answers to the calls that are asked behind others."""
    return ask(*calls, *asked)[len(calls):]


def puts(carried):
    return [put(k, a, b) for k, (a, b) in enumerate(carried)]


def filled(n, carried):
    return [begin(n)] + puts(carried)


def lines_asked(n):
    return [line(k) for k in range(len(LINES[n]))]


def lines_told(n, carried):
    """What the calls of line answer."""
    told_lines = []
    for (one, other), (a, b) in zip(LINES[n], carried):
        least = Fraction(a, b)
        told_lines.append([0, one, other, least.numerator, least.denominator])
    return told_lines


def all_told(carried):
    """What found and told answer."""
    answer = [len(carried)]
    for a, b in carried:
        least = Fraction(a, b)
        answer.extend([least.numerator, least.denominator])
    return answer


def turned(n, carried):
    """What each line carries when the square is turned a quarter."""
    by_places = {}
    for (one, other), (a, b) in zip(LINES[n], carried):
        by_places[frozenset((TURNED[n][one], TURNED[n][other]))] = (a, b)
    return [by_places[frozenset(places)] for places in LINES[n]]


def fractions_of(answer):
    """The fractions of an answer that tells how many there are, each in its told form."""
    pairs = list(zip(answer[1::2], answer[2::2]))
    assert len(answer) == 1 + 2 * answer[0], answer
    for upper, lower in pairs:
        least = Fraction(upper, lower)
        assert (upper, lower) == (least.numerator, least.denominator), (upper, lower)
    return [Fraction(upper, lower) for upper, lower in pairs]


def very_different(n):
    """Fractions from 1 by 99 to 99 by 1, no pattern of which a turned or mirrored square shares."""
    carried = []
    for k in range(len(LINES[n])):
        if k % 3 == 0:
            carried.append((99 - k, k + 1))
        elif k % 3 == 1:
            carried.append((1, 99 - 2 * k))
        else:
            carried.append((k * k % 99 + 1, (7 * k) % 99 + 1))
    return carried


def mixed(n):
    return [((5 * k + 3) % 17 + 1, (3 * k + 4) % 11 + 1) for k in range(len(LINES[n]))]


def all_one(n):
    return [(1, 1) for k in LINES[n]]


def squares():
    """Each width with each of three fillings: (n, what its lines carry)."""
    return [(n, fill(n)) for n in (1, 2, 3) for fill in (all_one, mixed, very_different)]
