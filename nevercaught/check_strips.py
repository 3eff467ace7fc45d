"""Whether a Through or a Shut is right."""

from nevercaught.checks import is_integer, is_square
from nevercaught.strips import Shut, Through, check_strip, is_open, last_turn, played, taken_column


def shows_passage(strip, column, value):
    """Whether the value is a Through by which the flyer comes through, or the Shut of a strip on which it does not."""
    check_strip(strip)
    taken_column(strip, column)
    if type(value) is Shut:
        return not is_open(strip) and is_integer(value.turns) and value.turns == last_turn(strip)
    if type(value) is not Through or not isinstance(value.flights, (list, tuple)):
        return False
    if not all([is_square(square) for square in value.flights]):
        return False
    game = played(strip, column, value.flights)
    return game is not None and game.through
