"""Where the runner stands behind a turn, and how it goes on."""

from nevercaught.best import best_squares
from nevercaught.boards import Board, bars
from nevercaught.checks import are_squares, is_square, is_within, taken_burns, taken_number, taken_squares
from nevercaught.errors import BadStand, BadText, Misfit, TooMany
from nevercaught.lines import SIDES, UP, behind, in_ground, sides_of, step_of
from nevercaught.texts import check_bar, check_end, integer_at, items_of, number_at, square_at, square_text

MOST_PACE = 12


class Stand:
    """The runner's square, its last step, its wall, and what is passed and burnt by then."""

    def __init__(self, pace, turn, square, corner, heading, wall, passed, burnt):
        if not is_within(pace, 1, MOST_PACE):
            raise BadStand("pace")
        if not is_within(turn, 0, None):
            raise BadStand("turn")
        self.pace = pace
        self.turn = turn
        self.square = pair_for(square, "square")
        self.corner = pair_for(corner, "corner")
        self.heading = heading_for(heading)
        self.wall = squares_for(wall, "wall")
        if any([x < 0 for x, _ in self.wall]):
            raise BadStand("wall")
        self.passed = squares_for(passed, "passed")
        self.burnt = squares_for(burnt, "burnt")
        check_together(self)

    def __eq__(self, other):
        if not isinstance(other, Stand):
            return False
        if self.pace != other.pace or self.turn != other.turn or self.square != other.square:
            return False
        if self.corner != other.corner or self.heading != other.heading:
            return False
        return self.wall == other.wall and self.passed == other.passed and self.burnt == other.burnt

    def __str__(self):
        pairs = ((self.pace, self.turn), self.square, self.corner, self.heading)
        lots = (self.wall, self.passed, self.burnt)
        return " ".join([square_text(pair) for pair in pairs] + [lot_text(lot) for lot in lots])

    @staticmethod
    def read(text):
        """The Stand whose text this is."""
        items = items_of(text)
        pace = number_at(items, 0, 1, MOST_PACE)
        turn = number_at(items, 1, 0, None)
        square = (integer_at(items, 2), integer_at(items, 3))
        corner = (integer_at(items, 4), integer_at(items, 5))
        heading = heading_at(items, 6)
        wall, at = lot_at(items, 8, 0)
        passed, at = lot_at(items, at, None)
        burnt, at = lot_at(items, at, None)
        check_end(items, at)
        try:
            return Stand(pace, turn, square, corner, heading, wall, passed, burnt)
        except Misfit:
            raise BadText(0, len(items) - 1) from None


def start(pace=1):
    """The Stand of turn 0."""
    return Stand(taken_pace(pace), 0, (0, 0), (0, 1), UP, (), ((0, 0),), ())


def flown(stand, burns):
    """The Stand of the next turn."""
    check_stand(stand)
    return one_on(stand, taken_turn(burns, stand.pace))


def way_of(stand):
    """The steps of the next turn if nothing is burnt in it."""
    check_stand(stand)
    return steps_along(stand, best_squares(board_ahead(stand, ())), 2 * stand.pace)


def check_stand(stand):
    """Raises BadStand for what is no Stand."""
    if not isinstance(stand, Stand):
        raise BadStand("stand")


def taken_pace(pace):
    """The pace that was passed."""
    return taken_number(pace, 1, MOST_PACE, "pace")


def taken_turn(burns, pace):
    """The burns of one turn that were passed."""
    row = taken_burns(burns, "burns")
    if len(row) > pace:
        raise TooMany("burns", pace)
    return row


def board_ahead(stand, burns):
    """The Board of the next turn, if it has these burns."""
    fires = {square: True for square in stand.burnt}
    for burn in burns:
        if burn is not None and burn != stand.square:
            fires[burn] = True
    return Board(stand.wall, stand.passed, list(fires))


def one_on(stand, burns):
    """The Stand of the next turn, if it has these burns."""
    board = board_ahead(stand, burns)
    return gone_on(stand, best_squares(board), board.burnt)


def steps_along(stand, wall, many):
    """So many steps on from the stand, along the edge of this wall, which fits the board of the next turn."""
    inside = {square: True for square in wall}
    corner, heading = stand.corner, stand.heading
    steps = []
    for _ in range(many):
        corner, heading = behind(inside, corner, heading)
        steps.append(step_of(corner, heading))
    return tuple(steps)


def gone_on(stand, wall, burnt):
    """The Stand of the next turn, with this wall and with these squares burnt."""
    steps = steps_along(stand, wall, 2 * stand.pace)
    corner, heading, square = steps[-1]
    passed = {other: True for other in stand.passed}
    for step in steps:
        passed[step[2]] = True
    return Stand(stand.pace, stand.turn + 1, square, corner, heading, wall, list(passed), burnt)


def pair_for(value, part):
    """The pair of integers that was passed for this part of a Stand."""
    if not is_square(value):
        raise BadStand(part)
    return (value[0], value[1])


def heading_for(value):
    """The heading that was passed for a Stand."""
    heading = pair_for(value, "heading")
    if heading not in SIDES:
        raise BadStand("heading")
    return heading


def squares_for(value, part):
    """The squares that were passed for this part of a Stand, ascending."""
    if not are_squares(value):
        raise BadStand(part)
    return taken_squares(value, part)


def check_together(stand):
    """Raises Misfit if the parts of a Stand do not go together."""
    left, right = sides_of(stand.corner, stand.heading)
    if stand.square != right or right[0] < 0:
        raise Misfit("square")
    shut = {square: True for square in stand.passed}
    if right not in shut:
        raise Misfit("passed")
    inside = {square: True for square in stand.wall}
    if any([bars(shut, square) for square in stand.wall]) or not in_ground(inside, left):
        raise Misfit("wall")


def lot_text(squares):
    """A bar, and behind it the squares, with blanks between."""
    return " ".join(["/"] + [square_text(square) for square in squares])


def heading_at(items, at):
    """The heading written from this index on."""
    x = number_at(items, at, -1, 1)
    y = integer_at(items, at + 1)
    if (x, y) not in SIDES:
        raise BadText(0, at + 1)
    return (x, y)


def lot_at(items, at, least):
    """The squares behind the bar at this index, none with an x below the least, and the index behind them."""
    check_bar(items, at)
    squares = []
    at += 1
    while at < len(items) and items[at] != "/":
        squares.append(square_at(items, at, squares[-1] if squares else None, least))
        at += 2
    return (squares, at)
