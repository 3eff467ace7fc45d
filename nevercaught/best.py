"""The best wall of a board, and a flow that shows it."""

from nevercaught.amounts import amounts_of
from nevercaught.boards import check_board
from nevercaught.grids import grid_of
from nevercaught.nets import Net, come_to, fill
from nevercaught.papers import Paper
from nevercaught.walls import price_of


class Best(Paper):
    """A best wall, and the amounts of a flow that shows it."""

    def __init__(self, squares, right, up):
        Paper.__init__(self, "best", squares, right, up)
        self.squares, self.right, self.up = self.parts


def best_for(board):
    """The Best of the best wall of the board."""
    check_board(board)
    grid = grid_of(board)
    if grid is None:
        return Best((), (), ())
    net = Net(grid)
    fill(net)
    amounts = amounts_of(grid, net)
    return Best(squares_shown(grid, net), amounts.right, amounts.up)


def cheapest_cost(board):
    """The cost of the best wall of the board."""
    check_board(board)
    return price_of(best_squares(board), board.burnt)


def best_squares(board):
    """The squares of the best wall of the board, ascending."""
    grid = grid_of(board)
    if grid is None:
        return ()
    net = Net(grid)
    fill(net)
    return squares_shown(grid, net)


def squares_shown(grid, net):
    """The squares of the wall that a greatest flow shows, ascending."""
    squares = []
    for node in come_to(net):
        column, wide = grid.columns[node % net.width]
        row, tall = grid.rows[node // net.width - 1]
        for x in range(column, column + wide):
            squares.extend([(x, y) for y in range(row, row + tall)])
    return tuple(sorted(squares))
