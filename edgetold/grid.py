"""A square: how its places and lines are numbered, and what its lines carry."""

from edgetold.ratios import ONE

WIDEST = 3


class Square:
    def __init__(self):
        # No square is 0 wide, so this tells that none has begun.
        self.wide = 0
        self.carried = []

    def renew(self, wide):
        self.wide = wide
        self.carried = [ONE for k in range(count_lines(wide))]


def count_lines(wide):
    return 2 * wide * (wide + 1)


def count_edge(wide):
    return 4 * wide


def count_inside(wide):
    return wide * wide


# One step beyond the first or last row or column lies the edge, so that a line's ends
# are found by steps alone, whether it lies inside or reaches the edge.
def place_at(wide, row, column):
    if row < 0:
        return column
    if column == wide:
        return wide + row
    if row == wide:
        return 2 * wide + column
    if column < 0:
        return 3 * wide + row
    return count_edge(wide) + row * wide + column


def line_ends(wide, k):
    along = wide + 1
    of_rows = wide * along
    step = k % along
    if k < of_rows:
        row = k // along
        return (place_at(wide, row, step - 1), place_at(wide, row, step))
    column = (k - of_rows) // along
    return (place_at(wide, step - 1, column), place_at(wide, step, column))
