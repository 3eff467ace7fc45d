"""Whoever goes by a row of walls, and which wall is to blame if they are caught."""

from nevercaught.boards import bars, fits
from nevercaught.checks import are_squares, taken_burns, taken_square, taken_squares
from nevercaught.errors import BadSquares, Misfit
from nevercaught.flights import turns_in
from nevercaught.lines import whole_line
from nevercaught.papers import Paper
from nevercaught.pockets import closed
from nevercaught.stands import board_ahead, gone_on, start, taken_pace
from nevercaught.walls import price_of, rank_of


class Blamed(Paper):
    """A turn, and a wall that is better there than the told one."""

    def __init__(self, turn, squares):
        Paper.__init__(self, "blamed", turn, squares)
        self.turn, self.squares = self.parts


class Run:
    """The Stands of whoever goes by a row of walls, turn 0 among them, and the Boards of all turns."""

    def __init__(self, pace):
        self.stands = [start(pace)]
        self.boards = []


def wall_run(burns, walls, pace=1):
    """The Stands of whoever goes by these walls, of turn 0 and of each turn."""
    return tuple(run_of(burns, walls, pace).stands)


def costs_of(burns, walls, pace=1):
    """For each turn what the wall of the turn before would cost, and what its own wall costs."""
    return costs_in(run_of(burns, walls, pace))


def rises_of(burns, walls, pace=1):
    """The turns whose own wall costs more than that of the turn before would."""
    return tuple(rises_in(run_of(burns, walls, pace)))


def left_out(burns, walls, pace=1):
    """For each turn the burnt squares, not passed before it, that lie beside the line of its wall."""
    run = run_of(burns, walls, pace)
    return tuple([left_by(board, stand.wall) for board, stand in zip(run.boards, run.stands[1:])])


def first_passed(burns, walls, square, pace=1):
    """The turn of the first step with this square on its right, None if there is none."""
    row = taken_burns(burns, "burns")
    told = taken_row(walls)
    place = taken_square(square, "square")
    return passed_in(run_by(turns_in(row, taken_pace(pace)), told, pace), place)


def caught_at(burns, walls, pace=1):
    """The first turn at which whoever goes by these walls is caught, None if there is none."""
    return caught_in(run_of(burns, walls, pace))


def blame(burns, walls, pace=1):
    """A Blamed of a wall that is to blame, None if nobody is caught."""
    run = run_of(burns, walls, pace)
    turn = caught_in(run)
    if turn is None:
        return None
    square = run.stands[turn].square
    first = passed_in(run, square)
    if first > 0 and square in run.boards[first - 1].burnt:
        # On the right of the line it makes this wall longer by 2 at most, with one burnt square more.
        return Blamed(first, sorted(list(run.stands[first].wall) + [square]))
    rises = [rise for rise in rises_in(run) if first < rise <= turn]
    if rises:
        return Blamed(rises[0], run.stands[rises[0] - 1].wall)
    # Since then nothing became dearer, and closed behind its own steps the wall is shorter by more than was burnt.
    return Blamed(first, closed_behind(run.stands[turn]))


def taken_row(walls):
    """The row of walls that was passed, each of them ascending."""
    if not isinstance(walls, (list, tuple)) or not all([are_squares(wall) for wall in walls]):
        raise BadSquares("walls")
    return [taken_squares(wall, "walls") for wall in walls]


def run_of(burns, walls, pace):
    """The Run of burns, walls and a pace that were passed."""
    row = taken_burns(burns, "burns")
    told = taken_row(walls)
    return run_by(turns_in(row, taken_pace(pace)), told, pace)


def run_by(turns, walls, pace):
    """The Run of whoever goes by these walls, one for each turn."""
    if len(walls) != len(turns):
        raise Misfit("walls")
    run = Run(pace)
    for burns, wall in zip(turns, walls):
        board = board_ahead(run.stands[-1], burns)
        if not may_take(board, wall):
            raise Misfit("walls")
        run.stands.append(gone_on(run.stands[-1], wall, board.burnt))
        run.boards.append(board)
    return run


def may_take(board, squares):
    """Whether these squares are a wall that fits the board."""
    return all([x >= 0 for x, _ in squares]) and fits(board, squares)


def costs_in(run):
    """For each turn of a Run what the wall of the turn before would cost, and what its own wall costs."""
    costs = []
    for at, board in enumerate(run.boards):
        last, own = run.stands[at].wall, run.stands[at + 1].wall
        costs.append((price_of(last, board.burnt), price_of(own, board.burnt)))
    return tuple(costs)


def rises_in(run):
    """The turns of a Run whose own wall costs more than that of the turn before would."""
    return [at + 1 for at, pair in enumerate(costs_in(run)) if pair[1] > pair[0]]


def passed_in(run, square):
    """The turn of the first step of a Run with this square on its right, None if there is none."""
    if bars((), square):
        return 0
    for turn, stand in enumerate(run.stands):
        if square in stand.passed:
            return turn
    return None


def caught_in(run):
    """The first turn of a Run at which its square is burnt, None if there is none."""
    for turn, stand in enumerate(run.stands):
        if stand.square in stand.burnt:
            return turn
    return None


def left_by(board, wall):
    """The burnt squares, not passed on the board, that are on the right of a step of the line of the wall."""
    line = whole_line(wall)
    beside = {step[2]: True for step in line}
    top = line[-1][0][1]
    shut = {square: True for square in board.passed}
    left = []
    for square in board.burnt:
        # Above the wall the line goes straight up along the left half; below it, it has passed squares beside it.
        if (square in beside or square[0] == 0 and square[1] >= top) and not bars(shut, square):
            left.append(square)
    return tuple(left)


def closed_behind(stand):
    """The wall of a stand, closed at the first step that has its square on the right, and at its last step."""
    line = whole_line(stand.wall)
    beside = [step[2] for step in line]
    last = line.index((stand.corner, stand.heading, stand.square))
    return closed(stand.wall, beside[beside.index(stand.square):last + 1])


def is_cheaper(one, other, burnt):
    """Whether the wall one costs less than the wall other, or as much with more burnt squares."""
    return rank_of(one, burnt)[:2] < rank_of(other, burnt)[:2]
