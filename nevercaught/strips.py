"""A strip between two borders, on which a flyer is caught, or comes through."""

from nevercaught.checks import is_square, taken_number, taken_square, taken_squares
from nevercaught.errors import BadBoard, BadSquares, Misfit
from nevercaught.papers import Denial, Paper


class Strip:
    """So many columns, the power of the flyer, and how far away the bands are."""

    def __init__(self, wide, power, far):
        self.wide = taken_number(wide, 1, 6, "wide")
        self.power = taken_number(power, 1, 3, "power")
        self.far = taken_number(far, 1, 60, "far")

    def __eq__(self, other):
        if not isinstance(other, Strip):
            return False
        return self.wide == other.wide and self.power == other.power and self.far == other.far


class Through(Paper):
    """The flights by which a flyer comes through."""

    def __init__(self, flights):
        Paper.__init__(self, "through", flights)
        self.flights = self.parts[0]


class Shut(Denial):
    """The turn at which a flyer is caught at the latest."""

    def __init__(self, turns):
        Denial.__init__(self, "shut", turns)
        self.turns = self.parts[0]


class Game:
    """A flyer on a strip, what is burnt, the burns of the shutter in their order, and whether the flyer is through."""

    def __init__(self, strip, column):
        self.strip = strip
        self.square = (column, 0)
        self.fires = {}
        self.told = []
        self.through = False


def may_fly(strip, burnt, square):
    """The squares to which the flyer may fly."""
    fires, place = taken_place(strip, burnt, square)
    return tuple(reached(strip, fires, place))


def strip_burn(strip, burnt, square):
    """The square that the shutter burns, None if there is none left."""
    fires, place = taken_place(strip, burnt, square)
    return shutter_burn(strip, fires, place)


def strip_game(strip, column, flights):
    """The burns of the shutter against these flights, one before each, and the next one if the flyer is not through."""
    check_strip(strip)
    taken_column(strip, column)
    game = played(strip, column, taken_flights(flights))
    if game is None:
        raise Misfit("flights")
    if not game.through:
        burn_next(game)
    return tuple(game.told)


def passage(strip, column):
    """Flights by which the flyer comes through, or the turn at which it is caught at the latest."""
    check_strip(strip)
    taken_column(strip, column)
    if not is_open(strip):
        return Shut(last_turn(strip))
    # Down as far as can be, and aside, to where the lower band is burnt last.
    flights = []
    x, y = column, 0
    while y > -strip.far:
        x = min(x + strip.power, strip.wide - 1)
        y = max(y - strip.power, -strip.far)
        flights.append((x, y))
    return Through(flights)


def check_strip(strip):
    """Raises BadBoard for what is no Strip."""
    if not isinstance(strip, Strip):
        raise BadBoard("strip")


def taken_column(strip, column):
    """The column of the strip that was passed."""
    return taken_number(column, 0, strip.wide - 1, "column")


def taken_place(strip, burnt, square):
    """The burnt squares, as a dict, and the square of the flyer, as they were passed."""
    check_strip(strip)
    fires = {other: True for other in taken_squares(burnt, "burnt")}
    place = taken_square(square, "square")
    if not 0 <= place[0] < strip.wide:
        raise Misfit("square")
    return (fires, place)


def taken_flights(flights):
    """The flights that were passed; some may be alike."""
    if not isinstance(flights, (list, tuple)) or not all([is_square(square) for square in flights]):
        raise BadSquares("flights")
    return [(square[0], square[1]) for square in flights]


def is_open(strip):
    """Whether a flyer comes through."""
    return strip.far <= strip.power * strip.power * strip.wide


def last_turn(strip):
    """The turn at which a flyer that does not come through is caught at the latest."""
    return 2 * strip.power * strip.wide + strip.wide * (2 * strip.far - 1) - 1


def reached(strip, fires, place):
    """The squares to which the flyer may fly from its place, ascending."""
    x, y = place
    power = strip.power
    found = []
    for column in range(max(0, x - power), min(strip.wide - 1, x + power) + 1):
        squares = [(column, row) for row in range(y - power, y + power + 1)]
        found.extend([square for square in squares if square != place and square not in fires])
    return found


def squares_between(strip, low, high):
    """The squares of the strip from one row to another one, ascending."""
    return [(column, row) for column in range(strip.wide) for row in range(low, high + 1)]


def shutter_burn(strip, fires, place):
    """The square that the shutter burns if the flyer is there, None if there is none left."""
    far, power = strip.far, strip.power
    upper = squares_between(strip, far, far + power - 1)
    lower = squares_between(strip, 1 - far - power, -far)
    bands = upper + lower if place[1] >= 0 else lower + upper
    middle = [square for square in squares_between(strip, 1 - far, far - 1) if square != place]
    for square in bands + middle:
        if square not in fires:
            return square
    return None


def burn_next(game):
    """Burns the next square, if there is one left."""
    burn = shutter_burn(game.strip, game.fires, game.square)
    game.told.append(burn)
    if burn is not None:
        game.fires[burn] = True


def played(strip, column, flights):
    """The Game of these flights, None if the flyer may not fly so, or is through before the last one."""
    game = Game(strip, column)
    for square in flights:
        if game.through:
            return None
        burn_next(game)
        if square not in reached(strip, game.fires, game.square):
            return None
        game.square = square
        game.through = strip.far <= abs(square[1]) < strip.far + strip.power
    return game
