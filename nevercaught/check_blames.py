"""Whether a Blamed is right."""

from nevercaught.blames import Blamed, is_cheaper, may_take, run_of
from nevercaught.checks import are_squares, is_within


def shows_blame(burns, walls, value, pace=1):
    """Whether the value is a Blamed of a turn, and of a wall for which the told wall of this turn is to blame."""
    run = run_of(burns, walls, pace)
    if type(value) is not Blamed or not is_within(value.turn, 1, len(run.boards)):
        return False
    if not are_squares(value.squares) or list(value.squares) != sorted(value.squares):
        return False
    board = run.boards[value.turn - 1]
    return may_take(board, value.squares) and is_cheaper(value.squares, run.stands[value.turn].wall, board.burnt)
