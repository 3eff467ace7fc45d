"""The box of a board, with rows that are alike drawn together, and columns likewise."""

from nevercaught.boards import box_of, unit_of

PLAIN = 0
HELD = 1
PASSED = 2
BURNT = 3


class Grid:
    """The columns and rows of a box, in lots of (the first one, how many), and the marks of its squares."""

    def __init__(self, board, box):
        column, low, high = box
        self.unit = unit_of(board)
        self.low = low
        self.wide = column + 1
        self.tall = high - low + 1
        self.marks = marks_of(board, box)
        down = {x: [] for x in range(column + 1)}
        along = {y: [] for y in range(low, high + 1)}
        for x, y in sorted(self.marks):
            mark = self.marks[x, y]
            down[x].append((y, mark))
            along[y].append((x, mark))
        self.columns = drawn_together(down)
        self.rows = drawn_together(along)


def grid_of(board):
    """The Grid of the board, None without a box."""
    box = box_of(board)
    if box is None:
        return None
    return Grid(board, box)


def marks_of(board, box):
    """A dict of the squares of the box that are not plain."""
    marks = {(0, y): PASSED for y in range(box[1], min(box[2], 0) + 1)}
    for square in board.passed:
        if lies_in(box, square):
            marks[square] = PASSED
    for square in board.held:
        marks[square] = HELD
    # Whether a held or a passed square is burnt makes no difference to which wall is the best one.
    for square in board.burnt:
        if lies_in(box, square) and square not in marks:
            marks[square] = BURNT
    return marks


def lies_in(box, square):
    """Whether the square is in the box."""
    column, low, high = box
    return 0 <= square[0] <= column and low <= square[1] <= high


def drawn_together(lines):
    """Lots of lines side by side that are alike, as pairs; a line with a burnt square stays alone."""
    lots = []
    last = None
    for at, line in lines.items():
        if line == last and all([pair[1] != BURNT for pair in line]):
            lots[-1] = (lots[-1][0], lots[-1][1] + 1)
        else:
            lots.append((at, 1))
        last = line
    return lots
