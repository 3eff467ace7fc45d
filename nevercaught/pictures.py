"""Pictures of stands."""

from nevercaught.boards import bars
from nevercaught.checks import taken_square
from nevercaught.errors import Misfit, TooMany
from nevercaught.stands import check_stand

MOST_SQUARES = 10000


def picture(stand, low, high):
    """The picture of the stand in a box, the highest row first."""
    check_stand(stand)
    left, bottom = taken_square(low, "low")
    right, top = taken_square(high, "high")
    if right < left or top < bottom:
        raise Misfit("box")
    if (right - left + 1) * (top - bottom + 1) > MOST_SQUARES:
        raise TooMany("squares", MOST_SQUARES)
    signs = signs_of(stand)
    return tuple([row_of(signs, y, left, right) for y in range(top, bottom - 1, -1)])


def row_of(signs, y, left, right):
    """The signs of a row, from one column to another one."""
    return "".join([sign_at(signs, (x, y)) for x in range(left, right + 1)])


def signs_of(stand):
    """The signs of the squares that a stand tells of; a later one takes the place of an earlier one."""
    signs = {square: "*" for square in stand.passed}
    for square in stand.wall:
        signs[square] = "+"
    for square in stand.burnt:
        signs[square] = "#"
    signs[stand.square] = "@"
    return signs


def sign_at(signs, square):
    """The sign of a square."""
    if square in signs:
        return signs[square]
    if bars((), square):
        return "*"
    return "|" if square[0] < 0 else "."
