"""A square: how its places and lines are numbered, and what its lines carry."""

from edgetold.ratios import ONE

WIDEST = 3


class Square:
    def __init__(self):
        # No square is 0 wide, so this tells that none has begun.
        self.wide = 0
        self.carried = []
        # Likewise, that no table is kept.
        self.kept_wide = 0
        self.kept_table = []

    def renew(self, wide):
        self.fill(wide, [ONE for k in range(count_lines(wide))])

    def fill(self, wide, carried):
        self.wide = wide
        self.carried = carried

    def turn(self):
        self.carried = turned(self.wide, self.carried)

    def keep(self, table):
        self.kept_wide = self.wide
        self.kept_table = table


def count_lines(wide):
    return 2 * wide * (wide + 1)


def count_edge(wide):
    return 4 * wide


def count_inside(wide):
    return wide * wide


# One step beyond the first or last row or column lies the edge, so that a line's ends
# are found by steps alone, whether it lies inside or reaches the edge.
def place_at(wide, row, column):
    if row < 0:
        return column
    if column == wide:
        return wide + row
    if row == wide:
        return 2 * wide + column
    if column < 0:
        return 3 * wide + row
    return count_edge(wide) + row * wide + column


def row_line(wide, row, step):
    return row * (wide + 1) + step


def column_line(wide, column, step):
    return (wide + column) * (wide + 1) + step


def line_ends(wide, k):
    step = k % (wide + 1)
    row = k // (wide + 1)
    if row < wide:
        return (place_at(wide, row, step - 1), place_at(wide, row, step))
    column = row - wide
    return (place_at(wide, step - 1, column), place_at(wide, step, column))


# What lies in a row comes from the column of that number, which was counted from the other end;
# what lies in a column comes from the row that is as far from the south as it is from the west.
def turned_from(wide, k):
    step = k % (wide + 1)
    row = k // (wide + 1)
    if row < wide:
        return column_line(wide, row, wide - step)
    column = row - wide
    return row_line(wide, wide - 1 - column, step)


def turned(wide, carried):
    return [carried[turned_from(wide, k)] for k in range(len(carried))]


def place_across(wide, place):
    side = (place // wide + 2) % 4
    return side * wide + wide - 1 - place % wide
