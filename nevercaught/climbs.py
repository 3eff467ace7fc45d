"""Climbs: where a climber stands, what is burnt of the lid, and where it can go."""

from nevercaught.checks import taken_number, taken_square
from nevercaught.climbers import combs_of, height_of, taken_power
from nevercaught.errors import BadClimb, Misfit


class Climb:
    """Where a climb stands: the origins of its stages, and how many turns each of them has lasted so far."""

    def __init__(self, power, square, origins, lasted):
        self.power = power
        self.turn = sum(lasted)
        self.square = square
        self.origins = origins
        self.lasted = lasted

    def __eq__(self, other):
        if not isinstance(other, Climb):
            return False
        if self.power != other.power or self.turn != other.turn or self.square != other.square:
            return False
        return self.origins == other.origins and self.lasted == other.lasted


def begun(power):
    """The Climb at turn 0."""
    return Climb(taken_power(power), (0, 0), ((0, 0),), (0,))


def moved(climb, turns, square):
    """The Climb behind so many turns more, of which the last one leads to the square."""
    check_climb(climb)
    taken_number(turns, 1, None, "turns")
    goal = taken_square(square, "square")
    stage = stage_of(climb)
    if not leads(climb.power, stage, climb.square, turns, goal):
        raise Misfit("square")
    lasted = climb.lasted[:-1] + (climb.lasted[-1] + turns,)
    if ends(climb.power, stage, goal):
        return Climb(climb.power, goal, climb.origins + (goal,), lasted + (0,))
    return Climb(climb.power, goal, climb.origins, lasted)


def burn_of(climb):
    """The square that is burnt in the next turn, None if none is."""
    due = due_of(climb)
    at = climb.lasted[-1]
    if at >= due:
        return None
    stage = stage_of(climb)
    first, _ = columns_due(climb.power, stage, climb.origins[stage])
    return (first + at // climb.power * combs_of(climb.power), height_of(climb.power) + at % climb.power)


def due_of(climb):
    """How many squares are due in the present stage, burnt ones too."""
    check_climb(climb)
    stage = stage_of(climb)
    if stage == combs_of(climb.power):
        return 0
    _, many = columns_due(climb.power, stage, climb.origins[stage])
    return many * climb.power


def is_burnt(climb, square):
    """Whether the square is burnt so far."""
    check_climb(climb)
    x, y = taken_square(square, "square")
    row = y - height_of(climb.power)
    combs = combs_of(climb.power)
    stage = x % combs
    if not 0 <= row < climb.power or stage >= len(climb.origins):
        return False
    first, many = columns_due(climb.power, stage, climb.origins[stage])
    column = (x - first) // combs
    return 0 <= column < many and column * climb.power + row < climb.lasted[stage]


def is_caught(climb):
    """Whether the climber is caught."""
    check_climb(climb)
    # By then all of the lid that it can still come to is burnt; and from any row further down it can go straight up.
    return climb.square[1] == height_of(climb.power) - 1


def check_climb(climb):
    """Raises BadClimb for what is no Climb."""
    if not isinstance(climb, Climb):
        raise BadClimb("climb")


def stage_of(climb):
    """The number of the present stage."""
    return len(climb.origins) - 1


def leads(power, stage, square, turns, goal):
    """Whether so many turns lead from a square to a goal below the lid, none before the last one ending the stage."""
    height = height_of(power)
    rise = goal[1] - square[1]
    if not 1 <= turns <= rise <= power * turns or abs(goal[0] - square[0]) > power * turns or goal[1] >= height:
        return False
    if stage == combs_of(power):
        return True
    left = height - square[1] - (height >> (stage + 1))
    return turns <= left and rise < left + power


def ends(power, stage, square):
    """Whether a square ends the stage."""
    height = height_of(power)
    return stage < combs_of(power) and height - square[1] <= height >> (stage + 1)


def columns_due(power, stage, origin):
    """The first column of the comb that is due in a stage, and how many columns of it are."""
    combs = combs_of(power)
    far = power * (height_of(power) - origin[1])
    low = origin[0] - far
    first = low + (stage - low) % combs
    return (first, (origin[0] + far - first) // combs + 1)
