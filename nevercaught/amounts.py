"""The amounts of a flow through a box, from those of its grid.

What goes by one side of a cell is spread over the squares along it. Within a plain cell as much comes in as goes out.
There the corners of squares have heights: from one to the next one they fall or rise by what goes between them, and
what goes by a lot of squares together is what lies between the heights at its ends. Evenly spread, heights are ratios;
rounded down they still tell a flow, of integers, that is nowhere greater than what the ratios tell, rounded up.
"""

from nevercaught.grids import PLAIN


class Amounts:
    """The rows of amounts to the right and up, to be told by a Best."""

    def __init__(self, grid, net):
        self.grid = grid
        self.net = net
        self.right = [[0] * grid.wide for _ in range(grid.tall)]
        self.up = [[0] * grid.wide for _ in range(grid.tall + 1)]


def amounts_of(grid, net):
    """The Amounts of a flow through the grid."""
    amounts = Amounts(grid, net)
    for at in range(len(grid.columns)):
        column, wide = grid.columns[at]
        # Up to the lowest row goes what does not go down out of it.
        amounts.up[0][column:column + wide] = spread_up(-gone(amounts, 0, at, 3), wide)
    for row in range(len(grid.rows)):
        for at in range(len(grid.columns)):
            fill_cell(amounts, row, at)
    return amounts


def gone(amounts, row, at, d):
    """How much goes out of a cell by its edge d, which does not lead to the left."""
    grid, net = amounts.grid, amounts.net
    size = grid.rows[row][1] if d == 0 else grid.columns[at][1]
    return grid.unit * size - net.room[4 * node_of(net, row, at) + d]


def node_of(net, row, at):
    """The number of the node of a cell."""
    return (row + 1) * net.width + at


def fill_cell(amounts, row, at):
    """Tells the amounts within a cell, and by its sides on the right and above."""
    grid, net = amounts.grid, amounts.net
    column, wide = grid.columns[at]
    first, tall = grid.rows[row]
    right = gone(amounts, row, at, 0)
    up = gone(amounts, row, at, 2)
    low = first - grid.low
    for k, amount in enumerate(spread(right, tall)):
        amounts.right[low + k][column + wide - 1] = amount
    amounts.up[low + tall][column:column + wide] = spread_up(up, wide)
    if net.marks[node_of(net, row, at)] == PLAIN and wide * tall > 1:
        left = gone(amounts, row, at - 1, 0) if at > 0 else grid.unit * tall
        tell_within(amounts, (column, low), heights_of((wide, tall), left, right, left - right - up))


def spread(total, many):
    """A total as so many integers, as evenly as can be."""
    return [total * (k + 1) // many - total * k // many for k in range(many)]


def spread_up(total, many):
    """Likewise, rounded as the heights of a plain cell tell it for its sides below and above."""
    return [-amount for amount in spread(-total, many)]


def heights_of(size, left, right, down):
    """The heights of the corners of a plain cell, row by row; down goes out below, left comes in, right goes out."""
    wide, tall = size
    heights = []
    for t in range(tall + 1):
        base = t * left * wide
        rise = down * tall + t * (right - left)
        heights.append([(base + s * rise) // (wide * tall) for s in range(wide + 1)])
    return heights


def tell_within(amounts, start, heights):
    """Tells the amounts within a cell from the heights of its corners."""
    column, low = start
    wide = len(heights[0]) - 1
    for t in range(len(heights) - 1):
        here, above = heights[t], heights[t + 1]
        amounts.right[low + t][column:column + wide] = [above[s] - here[s] for s in range(1, wide + 1)]
        amounts.up[low + t + 1][column:column + wide] = [above[s] - above[s + 1] for s in range(wide)]
