"""Whether a Best is right."""

from nevercaught.best import Best
from nevercaught.boards import bars, box_of, check_board, fits, unit_of
from nevercaught.checks import are_squares, is_within, neighbours
from nevercaught.grids import lies_in


class Claim:
    """A board, and a wall in its box with amounts in the right form."""

    def __init__(self, board, box, best):
        self.last, self.low, self.high = box
        self.unit = unit_of(board)
        self.inside = {square: True for square in best.squares}
        self.held = {square: True for square in board.held}
        self.passed = {square: True for square in board.passed}
        self.burnt = {square: True for square in board.burnt}
        self.right = best.right
        self.up = best.up


def shows_best(board, value):
    """Whether the value is a Best of the best wall of the board."""
    check_board(board)
    if type(value) is not Best:
        return False
    box = box_of(board)
    if box is None:
        return all([isinstance(part, tuple) and not part for part in value.parts])
    if not are_placed(box, value.squares) or not fits(board, value.squares):
        return False
    wide = box[0] + 1
    tall = box[2] - box[1] + 1
    most = unit_of(board)
    if not are_amounts(value.right, tall, wide, most) or not are_amounts(value.up, tall + 1, wide, most):
        return False
    claim = Claim(board, box, value)
    return shuts(claim) and gives(claim) and all_come_to(claim)


def are_placed(box, squares):
    """Whether these are unlike squares of the box, ascending."""
    if not are_squares(squares) or list(squares) != sorted(squares):
        return False
    return all([lies_in(box, square) for square in squares])


def are_amounts(rows, many, wide, most):
    """Whether these are so many rows of so many amounts each, none above the most that may go."""
    if not isinstance(rows, tuple) or len(rows) != many:
        return False
    for row in rows:
        if not isinstance(row, tuple) or len(row) != wide:
            return False
        if not all([is_within(amount, -most, most) for amount in row]):
            return False
    return True


def going(claim, square):
    """What goes out of a square of the box to the right, to the left, up and down."""
    x = square[0]
    row = square[1] - claim.low
    left = -claim.right[row][x - 1] if x > 0 else 0
    return (claim.right[row][x], left, claim.up[row + 1][x], -claim.up[row][x])


def due_of(claim, square):
    """What is due of a free square."""
    due = claim.unit if square[0] == 0 else 0
    if square in claim.burnt:
        due += 2 * claim.unit + 1
    return due


def shuts(claim):
    """Whether all that can go goes from the squares of the wall to their neighbours outside."""
    for square in claim.inside:
        goes = going(claim, square)
        for amount, other in zip(goes, neighbours(square)):
            if other[0] >= 0 and other not in claim.inside and amount != claim.unit:
                return False
    return True


def gives(claim):
    """Whether no more than due is out of the free squares of the wall, and just this out of all other free ones."""
    for y in range(claim.low, claim.high + 1):
        for x in range(claim.last + 1):
            square = (x, y)
            if square in claim.held or bars(claim.passed, square):
                continue
            out = sum(going(claim, square))
            due = due_of(claim, square)
            if out > due or out < due and square not in claim.inside:
                return False
    return True


def all_come_to(claim):
    """Whether each square of the wall that is not held is come to."""
    found = [square for square in claim.inside if starts(claim, square)]
    met = {square: True for square in found}
    while found:
        square = found.pop()
        for amount, other in zip(going(claim, square), neighbours(square)):
            if other in claim.inside and other not in met and amount < claim.unit:
                met[other] = True
                found.append(other)
    return len(met) == len(claim.inside)


def starts(claim, square):
    """Whether a square of the wall is held, or come to because less is out of it than due."""
    return square in claim.held or sum(going(claim, square)) < due_of(claim, square)
