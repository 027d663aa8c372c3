"""What voltages at the edge make of a square: voltages inside, and what flows in at the edge."""

from edgetold.equations import solve, zeros
from edgetold.grid import count_edge, count_inside, line_ends
from edgetold.ratios import ONE, ZERO, minus, plus, times


def add_line_from(equations, edge, here, there, carried):
    first = len(edge)
    # At the edge anything may flow: only a place inside has an equation.
    if here < first:
        return
    equation = equations[here - first]
    equation[here - first] = plus(equation[here - first], carried)
    if there < first:
        last = len(equations)
        equation[last] = plus(equation[last], times(carried, edge[there]))
    else:
        equation[there - first] = minus(equation[there - first], carried)


# An equation says of one place inside that nothing flows from it, all together: a factor
# for each voltage inside, then what these come to, which is what the edge brings in.
def balance_equations(square, edge):
    count = count_inside(square.wide)
    equations = [zeros(count + 1) for place in range(count)]
    for k, carried in enumerate(square.carried):
        ends = line_ends(square.wide, k)
        add_line_from(equations, edge, ends[0], ends[1], carried)
        add_line_from(equations, edge, ends[1], ends[0], carried)
    return equations


# These can be solved in any order: from every place inside lines that carry something lead to
# the edge, so the equations are positive definite, and so are those of some places alone.
def voltages_inside(square, edge):
    return solve(balance_equations(square, edge))


def flows_in(square, edge):
    voltages = edge + voltages_inside(square, edge)
    flows = zeros(len(edge))
    for k, carried in enumerate(square.carried):
        ends = line_ends(square.wide, k)
        flow = times(carried, minus(voltages[ends[0]], voltages[ends[1]]))
        if ends[0] < len(edge):
            flows[ends[0]] = plus(flows[ends[0]], flow)
        if ends[1] < len(edge):
            flows[ends[1]] = minus(flows[ends[1]], flow)
    return flows


# Between two places the same is seen from either one, so voltage 1 at one place tells its row.
def seen_from(square, i):
    edge = [ONE if j == i else ZERO for j in range(count_edge(square.wide))]
    flows = flows_in(square, edge)
    return [ZERO if j == i else minus(ZERO, flows[j]) for j in range(len(flows))]


def table_of(square):
    return [seen_from(square, i) for i in range(count_edge(square.wide))]
