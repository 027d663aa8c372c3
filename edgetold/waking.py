"""Waking a corner: voltages at the edge that reach inside no further than some steps from it."""

from edgetold.equations import solve, zeros
from edgetold.grid import count_edge, place_across
from edgetold.ratios import ONE, ZERO, minus, plus, times


def flow_in_at(table, voltages, i):
    flow = ZERO
    for j, seen in enumerate(table[i]):
        flow = plus(flow, times(seen, minus(voltages[i], voltages[j])))
    return flow


def flows_by_table(table, voltages):
    return [flow_in_at(table, voltages, i) for i in range(len(table))]


# A place in the east has voltage 0 itself, so what flows out there is what is seen between it and
# each place that has another voltage, times that voltage: this must come to 0. No order is sought
# among these equations: the first of them alone are those of a lesser k, and of a square's table
# they can be solved for every k.
def woken(wide, table, k):
    west = 3 * wide
    equations = [table[i][west:west + k + 1] + [minus(ZERO, table[i][k])] for i in range(wide, wide + k + 1)]
    voltages = zeros(count_edge(wide))
    voltages[k] = ONE
    for step, voltage in enumerate(solve(equations)):
        voltages[west + step] = voltage
    return voltages


def from_across(wide, listed):
    return [listed[place_across(wide, place)] for place in range(len(listed))]


def table_from_across(wide, table):
    return from_across(wide, [from_across(wide, row) for row in table])


# Seen from the south east the square is one turned by a half, and its voltages turn back likewise.
def woken_across(wide, table, k):
    return from_across(wide, woken(wide, table_from_across(wide, table), k))
