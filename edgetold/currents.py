"""What voltages at the edge make of a square: voltages inside, and what flows in at the edge."""

from edgetold.grid import count_edge, count_inside, line_ends
from edgetold.ratios import ONE, ZERO, divided, minus, plus, times


def add_line_from(equations, edge, here, there, carried):
    first = len(edge)
    # At the edge anything may flow: only a place inside has an equation.
    if here < first:
        return
    equation = equations[here - first]
    equation[here - first] = plus(equation[here - first], carried)
    if there < first:
        last = len(equations)
        equation[last] = plus(equation[last], times(carried, edge[there]))
    else:
        equation[there - first] = minus(equation[there - first], carried)


def zeros(count):
    return [ZERO for k in range(count)]


# An equation says of one place inside that nothing flows from it, all together: a factor
# for each voltage inside, then what these come to, which is what the edge brings in.
def balance_equations(square, edge):
    count = count_inside(square.wide)
    equations = [zeros(count + 1) for place in range(count)]
    for k, carried in enumerate(square.carried):
        ends = line_ends(square.wide, k)
        add_line_from(equations, edge, ends[0], ends[1], carried)
        add_line_from(equations, edge, ends[1], ends[0], carried)
    return equations


def without(equation, pivot, k):
    factor = equation[k]
    return [minus(x, times(factor, y)) for x, y in zip(equation, pivot)]


# What is divided by is never 0, so no order is sought: from every place inside lines that carry
# something lead to the edge, and so what is left of the equations is positive definite each time.
def solve(equations):
    count = len(equations)
    left = equations
    for k in range(count):
        factor = left[k][k]
        pivot = [divided(x, factor) for x in left[k]]
        left = [pivot if i == k else without(left[i], pivot, k) for i in range(count)]
    return [equation[count] for equation in left]


def voltages_inside(square, edge):
    return solve(balance_equations(square, edge))


def flows_in(square, edge):
    voltages = edge + voltages_inside(square, edge)
    flows = zeros(len(edge))
    for k, carried in enumerate(square.carried):
        ends = line_ends(square.wide, k)
        flow = times(carried, minus(voltages[ends[0]], voltages[ends[1]]))
        if ends[0] < len(edge):
            flows[ends[0]] = plus(flows[ends[0]], flow)
        if ends[1] < len(edge):
            flows[ends[1]] = minus(flows[ends[1]], flow)
    return flows


# Between two places the same is seen from either one, so voltage 1 at one place tells its row.
def seen_from(square, i):
    edge = [ONE if j == i else ZERO for j in range(count_edge(square.wide))]
    flows = flows_in(square, edge)
    return [ZERO if j == i else minus(ZERO, flows[j]) for j in range(len(flows))]
