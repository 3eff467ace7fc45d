"""Whether a Flight is right."""

from nevercaught.check_best import shows_best
from nevercaught.flights import Flight, taken_turns
from nevercaught.stands import Stand, board_ahead, gone_on, start


def shows_flight(burns, value, pace=1):
    """Whether the value is a Flight of the runner against this row of burns."""
    turns = taken_turns(burns, pace)
    if type(value) is not Flight:
        return False
    if not is_row_of(value.stands, len(turns) + 1) or not is_row_of(value.walls, len(turns)):
        return False
    stand = start(pace)
    if not is_told(value.stands[0], stand):
        return False
    for at, row in enumerate(turns):
        board = board_ahead(stand, row)
        best = value.walls[at]
        if not shows_best(board, best):
            return False
        # What is shown is the one best wall, so nothing need be sought here.
        stand = gone_on(stand, best.squares, board.burnt)
        if not is_told(value.stands[at + 1], stand):
            return False
    return True


def is_row_of(value, many):
    """Whether the value is a row of so many values."""
    return isinstance(value, (list, tuple)) and len(value) == many


def is_told(value, stand):
    """Whether the value is this Stand."""
    return type(value) is Stand and value == stand
