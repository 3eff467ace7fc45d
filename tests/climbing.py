"""Climbs of the tests' own, stepped turn by turn, with listings of what is burnt; nothing here uses the package's."""


def combs(power):
    return 4 * power * power * power + 1


def height(power):
    lot = 1
    while lot < 16 * power * power * power * power * power:
        lot += lot
    for _ in range(combs(power) - 1):
        lot += lot
    return lot


def due(power, stage, origin):
    """The squares that are due in a stage, one behind the other: column by column, rows upwards."""
    tall = height(power)
    far = power * (tall - origin[1])
    x = origin[0] - far
    while x % combs(power) != stage % combs(power):
        x += 1
    while x <= origin[0] + far:
        for row in range(power):
            yield x, tall + row
        x += combs(power)


def reached(power, square):
    """All squares to which a climber can go in one turn, if nothing is burnt."""
    x, y = square
    return [(x + a, y + b) for a in range(-power, power + 1) for b in range(1, power + 1)]


class Game:
    """A climb turn by turn: in each turn a square is burnt, as long as one is due, and then the climber goes."""

    def __init__(self, power):
        self.power, self.tall = power, height(power)
        self.square, self.turn = (0, 0), 0
        self.origins, self.lasted = [], []
        self.burnt = set()
        self.waiting = []
        self.begin()

    def begin(self):
        """Begins a stage where the climber stands."""
        stage = len(self.origins)
        self.origins.append(self.square)
        self.lasted.append(0)
        self.waiting = due(self.power, stage, self.square) if stage < combs(self.power) else iter(())
        self.next = next(self.waiting, None)

    def free(self):
        """The squares to which it can go in the next turn, behind the burn."""
        return [s for s in reached(self.power, self.square) if s not in self.burnt and s != self.next]

    def go(self, goal):
        """One turn."""
        if self.next is not None:
            self.burnt.add(self.next)
            self.next = next(self.waiting, None)
        if goal in self.burnt or goal not in reached(self.power, self.square):
            raise ValueError(goal)
        self.square, self.turn = goal, self.turn + 1
        self.lasted[-1] += 1
        stage = len(self.origins) - 1
        if stage < combs(self.power) and 2 ** (stage + 1) * (self.tall - goal[1]) <= self.tall:
            self.begin()

    def parts(self):
        return (self.power, self.turn, self.square, tuple(self.origins), tuple(self.lasted))


def parts(climb):
    """The attributes of a Climb."""
    return (climb.power, climb.turn, climb.square, climb.origins, climb.lasted)


def stage_ends(power, stage, square):
    return stage < combs(power) and 2 ** (stage + 1) * (height(power) - square[1]) <= height(power)


def goals(power, stage, square, turns):
    """All squares to which so many turns lead below the lid, none before the last one ending the stage."""
    found = {square}
    for _ in range(turns):
        found = {s for s in found if s == square or not stage_ends(power, stage, s)}
        found = {s for here in found for s in reached(power, here) if s[1] < height(power)}
    return found


def straight(game):
    return (game.square[0], game.square[1] + 1)


def to_the_right(game):
    return (game.square[0] + 1, game.square[1] + 1)


def to_the_left(game):
    return (game.square[0] - 1, game.square[1] + 1)


def to_and_fro(game):
    way = 1 if game.turn // 7 % 2 else -1
    return (game.square[0] + way, game.square[1] + 1)


def least_burnt(game):
    """To where fewest squares are burnt of those at which one can still come in."""
    def fires(square):
        return sum(abs(x - square[0]) <= game.tall - square[1] for x, _ in game.burnt)

    return min(game.free(), key=fires)


WAYS = (straight, to_the_right, to_the_left, to_and_fro, least_burnt)
