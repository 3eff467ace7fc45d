"""Boards, what fits them, and their boxes."""

from nevercaught.checks import taken_right, taken_square, taken_squares
from nevercaught.errors import BadBoard, Misfit


class Board:
    """Squares that a wall must have, that it may not have, and that are burnt."""

    def __init__(self, held, passed, burnt):
        self.held = taken_squares(held, "held")
        self.passed = taken_squares(passed, "passed")
        self.burnt = taken_squares(burnt, "burnt")
        shut = {square: True for square in self.passed}
        if any([square[0] < 0 or bars(shut, square) for square in self.held]):
            raise Misfit("held")

    def __eq__(self, other):
        if not isinstance(other, Board):
            return False
        return self.held == other.held and self.passed == other.passed and self.burnt == other.burnt

    def is_passed(self, square):
        """Whether the square is passed on this board."""
        return bars(self.passed, taken_square(square, "square"))


def fits(board, wall):
    """Whether the wall fits the board."""
    check_board(board)
    squares = taken_right(wall, "wall")
    inside = {square: True for square in squares}
    if not all([square in inside for square in board.held]):
        return False
    shut = {square: True for square in board.passed}
    return not any([bars(shut, square) for square in squares])


def box_of(board):
    """The last column, the lowest and the highest row of the box, None without one."""
    check_board(board)
    shut = {square: True for square in board.passed}
    kept = [square for square in board.burnt if square[0] >= 0 and not bars(shut, square)]
    kept.extend(board.held)
    if not kept:
        return None
    rows = [square[1] for square in kept]
    return (max([square[0] for square in kept]), min(rows), max(rows))


def check_board(board):
    """Raises BadBoard for what is no Board."""
    if not isinstance(board, Board):
        raise BadBoard("board")


def bars(passed, square):
    """Whether a square is passed, where these are, beside those that always are."""
    return square in passed or square[0] == 0 and square[1] <= 0


def unit_of(board):
    """One more than there are burnt squares: what counts more than all of them."""
    return len(board.burnt) + 1
