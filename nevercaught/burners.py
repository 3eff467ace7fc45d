"""Burners: whoever tells of each stand what is burnt in the turn to come."""

from nevercaught.best import best_squares
from nevercaught.checks import are_squares, taken_burns, taken_number, taken_square
from nevercaught.errors import BadBurns, BadSquares
from nevercaught.flights import Flight, padded, turn_on
from nevercaught.stands import board_ahead, check_stand, start, steps_along, taken_pace, taken_turn


class Burner:
    """The base of all burners."""


class Told(Burner):
    """Burns a row of burns, as many at a time as the pace is."""

    def __init__(self, row):
        self.row = taken_burns(row, "row")

    def burns(self, stand):
        """The burns of the row for the turn to come."""
        check_stand(stand)
        first = stand.turn * stand.pace
        return padded(self.row[first:first + stand.pace], stand.pace)


class Ahead(Burner):
    """Burns squares so many steps ahead of the runner."""

    def __init__(self, steps):
        self.steps = taken_number(steps, 1, 60, "steps")

    def burns(self, stand):
        """The squares on the right of so many steps on, of one step more, and so on."""
        check_stand(stand)
        steps = steps_along(stand, stand.wall, self.steps + stand.pace - 1)
        return tuple([step[2] for step in steps[self.steps - 1:]])


class Ring(Burner):
    """Burns the squares round a middle, so far away from it."""

    def __init__(self, middle, size):
        self.middle = taken_square(middle, "middle")
        self.size = taken_number(size, 1, 20, "size")

    def burns(self, stand):
        """The first squares of the ring that are neither burnt nor the runner's."""
        check_stand(stand)
        x, y = self.middle
        size = self.size
        whole = block_at((x - size, y - size), 2 * size + 1)
        return unburnt(stand, [square for square in whole if abs(square[0] - x) == size or abs(square[1] - y) == size])


class Block(Burner):
    """Burns a block of squares, as wide as high."""

    def __init__(self, corner, wide):
        self.corner = taken_square(corner, "corner")
        self.wide = taken_number(wide, 1, 8, "wide")

    def burns(self, stand):
        """The first squares of the block that are neither burnt nor the runner's."""
        check_stand(stand)
        return unburnt(stand, block_at(self.corner, self.wide))


class Looker(Burner):
    """Burns the square of its tries behind which the runner comes least far."""

    def __init__(self, tries, deep):
        if not are_squares(tries) or not 1 <= len(tries) <= 8:
            raise BadSquares("tries")
        self.tries = tuple([(pair[0], pair[1]) for pair in tries])
        self.deep = taken_number(deep, 0, 2, "deep")

    def burns(self, stand):
        """The first square that leaves least, alone."""
        check_stand(stand)
        x, y = stand.square
        squares = [(x + pair[0], y + pair[1]) for pair in self.tries]
        left = [left_behind(stand, square, self.deep) for square in squares]
        return padded((squares[left.index(min(left))],), stand.pace)


class Asked(Burner):
    """Burns what a function answers."""

    def __init__(self, ask):
        self.ask = ask

    def burns(self, stand):
        """What the function answers of the stand."""
        check_stand(stand)
        ask = self.ask
        return ask(stand)


def match(burner, turns, pace=1):
    """The Flight of the runner against so many turns of a burner."""
    if not isinstance(burner, Burner):
        raise BadBurns("burner")
    taken_number(turns, 0, 24, "turns")
    stand = start(taken_pace(pace))
    stands = [stand]
    walls = []
    for _ in range(turns):
        stand, best = turn_on(stand, taken_turn(burner.burns(stand), pace))
        stands.append(stand)
        walls.append(best)
    return Flight(stands, walls)


def block_at(corner, wide):
    """The squares of a block, ascending."""
    return [(x, y) for x in range(corner[0], corner[0] + wide) for y in range(corner[1], corner[1] + wide)]


def unburnt(stand, squares):
    """The first of these squares that are neither burnt nor the runner's, as many as the pace, or with None behind."""
    kept = [square for square in squares if square not in stand.burnt and square != stand.square]
    return padded(kept[:stand.pace], stand.pace)


def left_behind(stand, square, deep):
    """The y less the x of the runner's square behind the turn in which this one is burnt, and deep turns without."""
    wall = best_squares(board_ahead(stand, (square,)))
    # Where nothing more is burnt, this wall stays the best one: what is passed further on is not in it.
    x, y = steps_along(stand, wall, 2 * stand.pace * (deep + 1))[-1][2]
    return y - x
