"""Climbers: how far a power leads, and the height of the lid below which it is caught."""

from nevercaught.checks import taken_number, taken_square
from nevercaught.errors import Misfit

MOST_POWER = 9


def combs_for(power):
    """How many combs the lid has."""
    return combs_of(taken_power(power))


def height_for(power):
    """The height of the lid."""
    return height_of(taken_power(power))


def reach_of(power, square):
    """The first and the last x at which a climber on the square can come into the lid, if nothing is burnt."""
    taken_power(power)
    x, y = taken_square(square, "square")
    distance = height_of(power) - y
    if distance < 1:
        raise Misfit("square")
    return (x - power * distance, x + power * distance)


def turns_for(power, square, goal):
    """The least and the greatest number of turns from a square to another one, None if no way leads there."""
    taken_power(power)
    x, y = taken_square(square, "square")
    column, row = taken_square(goal, "goal")
    rise = row - y
    least = (max(rise, abs(column - x)) + power - 1) // power
    if rise < 1 or least > rise:
        return None
    return (least, rise)


def taken_power(power):
    """The power that was passed."""
    return taken_number(power, 1, MOST_POWER, "power")


def combs_of(power):
    """How many combs the lid has for this power."""
    return 4 * power ** 3 + 1


def height_of(power):
    """The height of the lid for this power."""
    lot = 1
    while lot < 16 * power ** 5:
        lot *= 2
    return lot << (combs_of(power) - 1)
