"""Lines told by a table alone, from two corners, each woken step by step."""

from edgetold.currents import table_of
from edgetold.equations import zeros
from edgetold.grid import Square, column_line, count_edge, count_lines, row_line, turned
from edgetold.ratios import ZERO, divided, minus, plus, ratio, times
from edgetold.waking import flows_by_table, table_from_across, woken


# Raised for a table that no square has.
class NoSuchSquare(Exception):
    pass


def table_by_numbers(wide, numbers, e):
    count = count_edge(wide)
    table = [zeros(count) for i in range(count)]
    at = 0
    for i in range(count):
        for j in range(i + 1, count):
            table[i][j] = ratio(numbers[at], e)
            table[j][i] = table[i][j]
            at = at + 1
    return table


def carries(flow, voltage):
    carried = divided(flow, voltage)
    if carried[0] <= 0:
        raise NoSuchSquare("a line would carry nothing, or less")
    return carried


# The woken corner reaches into each row as far as something flows down to it. Of the lines that
# lead to these places from the north and from the west lesser wakings have told all but the last
# ones, which meet in a place of voltage 0 from which nothing flows on: what comes down to it goes
# back along the row. Gives back the row's voltages, and what flows down from it, both as far as
# the corner reaches into the next row.
def tell_row(wide, carried, row, west, above, down):
    reach = len(down) - 1
    carried[column_line(wide, reach, row)] = carries(down[reach], above[reach])
    here = [minus(above[c], divided(down[c], carried[column_line(wide, c, row)])) for c in range(reach)]
    here.append(ZERO)
    before = [west] + here
    back = minus(ZERO, down[reach])
    carried[row_line(wide, row, reach)] = carries(back, before[reach])
    along = [times(carried[row_line(wide, row, c)], minus(before[c], here[c])) for c in range(reach + 1)]
    below = [plus(down[c], minus(along[c], along[c + 1])) for c in range(reach)]
    return (here[:reach], below)


# The lines' own table would show this too, but of lines told by a table that is nearly a square's
# it takes long: their fractions have very many digits.
def refuse_stray_flows(wide, flows, k):
    first_west = 3 * wide
    for place, flow in enumerate(flows):
        awake = place <= k or first_west <= place <= first_west + k
        if flow != ZERO and not awake:
            raise NoSuchSquare("something flows in where nothing does")


def tell_by_waking(wide, table, carried, k):
    voltages = woken(wide, table, k)
    flows = flows_by_table(table, voltages)
    refuse_stray_flows(wide, flows, k)
    above = voltages[:k + 1]
    down = flows[:k + 1]
    for row in range(k + 1):
        told = tell_row(wide, carried, row, voltages[3 * wide + row], above, down)
        above = told[0]
        down = told[1]


# These are half of the lines: those that lie on the near side of the places from the south west
# corner to the north east one. All others are left 0.
def lines_near(wide, table):
    carried = zeros(count_lines(wide))
    for k in range(wide):
        tell_by_waking(wide, table, carried, k)
    return carried


def lines_by_table(wide, table):
    try:
        near = lines_near(wide, table)
        across = lines_near(wide, table_from_across(wide, table))
    except ZeroDivisionError:
        raise NoSuchSquare("a corner can't be woken as a square's can") from None
    far = turned(wide, turned(wide, across))
    return [plus(x, y) for x, y in zip(near, far)]


# A table holds more than is needed to tell the lines, so another table may tell the same ones.
def lines_with_table(wide, table):
    square = Square()
    square.fill(wide, lines_by_table(wide, table))
    if table_of(square) != table:
        raise NoSuchSquare("the lines it tells make another table")
    return square.carried
