"""The flight of the runner against a row of burns."""

from nevercaught.best import best_for, best_squares
from nevercaught.checks import taken_burns
from nevercaught.papers import Paper
from nevercaught.stands import board_ahead, gone_on, start, taken_pace


class Flight(Paper):
    """The Stands of all turns, turn 0 among them, and a Best for each turn."""

    def __init__(self, stands, walls):
        Paper.__init__(self, "flight", stands, walls)
        self.stands, self.walls = self.parts


def flight(burns, pace=1):
    """The Flight of the runner against this row of burns."""
    turns = taken_turns(burns, pace)
    stand = start(pace)
    stands = [stand]
    walls = []
    for row in turns:
        stand, best = turn_on(stand, row)
        stands.append(stand)
        walls.append(best)
    return Flight(stands, walls)


def where(burns, pace=1):
    """The squares on which the runner stands behind turn 0 and behind each turn."""
    turns = taken_turns(burns, pace)
    return tuple([stand.square for stand in flown_by(turns, pace)[0]])


def boards_of(burns, pace=1):
    """The Boards of all turns."""
    turns = taken_turns(burns, pace)
    return tuple(flown_by(turns, pace)[1])


def taken_turns(burns, pace):
    """The burns of each turn, of a row and a pace that were passed."""
    row = taken_burns(burns, "burns")
    return turns_in(row, taken_pace(pace))


def turns_in(row, pace):
    """The burns of each turn; the last one may have fewer."""
    return [row[at:at + pace] for at in range(0, len(row), pace)]


def padded(burns, many):
    """The burns, and None for what they lack of so many."""
    return tuple(burns) + (None,) * (many - len(burns))


def turn_on(stand, burns):
    """The Stand of the next turn, with these burns, and the Best of its board."""
    board = board_ahead(stand, burns)
    best = best_for(board)
    return (gone_on(stand, best.squares, board.burnt), best)


def flown_by(turns, pace):
    """The Stands of all turns, turn 0 among them, and the Boards of all turns."""
    stands = [start(pace)]
    boards = []
    for burns in turns:
        board = board_ahead(stands[-1], burns)
        boards.append(board)
        stands.append(gone_on(stands[-1], best_squares(board), board.burnt))
    return (stands, boards)
