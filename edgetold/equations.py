"""Equations, as many as numbers are sought, solved in exact fractions."""

from edgetold.ratios import ZERO, divided, minus, times


def zeros(count):
    return [ZERO for k in range(count)]


def without(equation, pivot, k):
    factor = equation[k]
    return [minus(x, times(factor, y)) for x, y in zip(equation, pivot)]


# An equation is a factor for each number that is sought, then what these come to. No order is
# sought: whoever asks knows that the first k equations tell the first k numbers, for every k,
# if the others are left out; where they don't, ZeroDivisionError is raised.
def solve(equations):
    count = len(equations)
    left = equations
    for k in range(count):
        factor = left[k][k]
        pivot = [divided(x, factor) for x in left[k]]
        left = [pivot if i == k else without(left[i], pivot, k) for i in range(count)]
    return [equation[count] for equation in left]
