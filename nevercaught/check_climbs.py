"""Whether a climber is caught, and papers that tell it."""

from nevercaught.checks import is_integer, is_square
from nevercaught.climbers import combs_of, height_of, taken_power
from nevercaught.climbs import burn_of, check_climb, ends, is_burnt, is_caught, leads
from nevercaught.papers import Denial, Paper, fixed


class Caught(Paper):
    """The origins and the lengths of all stages of a climb, and the square on which the climber is caught."""

    def __init__(self, origins, lasted, square):
        Paper.__init__(self, "caught", origins, lasted, square)
        self.origins, self.lasted, self.square = self.parts


class Free(Denial):
    """A square to which the climber can go in the next turn."""

    def __init__(self, square):
        Denial.__init__(self, "free", square)
        self.square = self.parts[0]


def judged(climb):
    """Whether the climber is caught: a Caught, or a Free."""
    check_climb(climb)
    if is_caught(climb):
        return Caught(climb.origins, climb.lasted, climb.square)
    x, y = climb.square
    # One row up it is below the lid still, where nothing is ever burnt.
    return Free((x, y + 1))


def shows_judged(climb, value):
    """Whether the value is the Caught of this climb, or a Free of any square to which it can go."""
    check_climb(climb)
    if type(value) is Caught:
        told = (climb.origins, climb.lasted, climb.square)
        return is_caught(climb) and has_form(value) and in_tuples(value) == told
    return type(value) is Free and is_square(value.square) and can_go(climb, value.square)


def shows_climb(power, value):
    """Whether the value is a Caught of any climb of this power."""
    taken_power(power)
    if type(value) is not Caught or not has_form(value):
        return False
    origins, lasted, square = in_tuples(value)
    combs = combs_of(power)
    if len(origins) != combs + 1 or len(lasted) != combs + 1 or origins[0] != (0, 0):
        return False
    for stage in range(combs):
        goal = origins[stage + 1]
        if not leads(power, stage, origins[stage], lasted[stage], goal) or not ends(power, stage, goal):
            return False
    return leads(power, combs, origins[combs], lasted[combs], square) and square[1] == height_of(power) - 1


def can_go(climb, square):
    """Whether the climber can go to the square in the next turn, behind the next burn."""
    rise = square[1] - climb.square[1]
    if not 1 <= rise <= climb.power or abs(square[0] - climb.square[0]) > climb.power:
        return False
    return not is_burnt(climb, square) and fixed(square) != burn_of(climb)


def has_form(caught):
    """Whether a Caught has a list of squares, a list of integers, and a square."""
    if not isinstance(caught.origins, (list, tuple)) or not isinstance(caught.lasted, (list, tuple)):
        return False
    if not all([is_square(origin) for origin in caught.origins]):
        return False
    return all([is_integer(turns) for turns in caught.lasted]) and is_square(caught.square)


def in_tuples(caught):
    """The origins, the lengths and the square of a Caught, in tuples."""
    return fixed((caught.origins, caught.lasted, caught.square))
