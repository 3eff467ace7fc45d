"""Steps that follow a wall, and the line of a wall."""

from nevercaught.checks import check_right, is_square, taken_number, taken_right, taken_square, taken_squares
from nevercaught.errors import BadSquare, Misfit

UP = (0, 1)

# For each heading: how far the squares on the left and on the right of a step lie from the corner to which it leads.
SIDES = {
    (0, 1): ((-1, -1), (0, -1)),
    (1, 0): ((-1, 0), (-1, -1)),
    (0, -1): ((0, 0), (-1, 0)),
    (-1, 0): ((0, -1), (0, 0)),
}


def beside(corner, heading):
    """The squares on the left and on the right of the step that leads to this corner by this heading."""
    return sides_of(taken_square(corner, "corner"), taken_heading(heading))


def next_step(wall, corner, heading):
    """The step next to the one of this corner and heading."""
    return steps_on(wall, corner, heading, 1)[0]


def step_back(wall, corner, heading):
    """The step to which the one of this corner and heading is the next."""
    squares = taken_squares(wall, "wall")
    place = taken_square(corner, "corner")
    way = taken_heading(heading)
    inside = ground_for(squares, place, way)
    place, way = before(inside, place, way)
    return step_of(place, way)


def steps_on(wall, corner, heading, many):
    """So many steps, each the next one behind the one before it."""
    squares = taken_squares(wall, "wall")
    place = taken_square(corner, "corner")
    way = taken_heading(heading)
    count = taken_number(many, 0, 400, "many")
    inside = ground_for(squares, place, way)
    steps = []
    for _ in range(count):
        place, way = behind(inside, place, way)
        steps.append(step_of(place, way))
    return tuple(steps)


def whole_line(wall):
    """The steps of the line, from the wall's lowest row to the one above its highest row."""
    squares = taken_right(wall, "wall")
    inside = {square: True for square in squares}
    rows = [square[1] for square in squares]
    place, way = (0, min(rows + [0])), UP
    end = (0, max(rows + [0]) + 1)
    steps = []
    while place != end:
        place, way = behind(inside, place, way)
        steps.append(step_of(place, way))
    return tuple(steps)


def taken_heading(heading):
    """The heading that was passed, as a tuple."""
    if not is_square(heading) or (heading[0], heading[1]) not in SIDES:
        raise BadSquare("heading")
    return (heading[0], heading[1])


def ground_for(squares, corner, heading):
    """The wall as a dict, if it is one and the step of this corner and heading follows it."""
    check_right(squares, "wall")
    inside = {square: True for square in squares}
    left, right = sides_of(corner, heading)
    if not in_ground(inside, left) or in_ground(inside, right):
        raise Misfit("step")
    return inside


def in_ground(inside, square):
    """Whether the square is in the left half or in the wall."""
    return square[0] < 0 or square in inside


def sides_of(corner, heading):
    """The squares on the left and on the right of a step."""
    x, y = corner
    left, right = SIDES[heading]
    return ((x + left[0], y + left[1]), (x + right[0], y + right[1]))


def step_of(corner, heading):
    """The step as a triple."""
    return (corner, heading, sides_of(corner, heading)[1])


def on_from(corner, heading):
    """The corner to which the step by this heading leads from a corner."""
    return (corner[0] + heading[0], corner[1] + heading[1])


def turned_left(heading):
    """The heading to the left of a heading."""
    return (-heading[1], heading[0])


def turned_right(heading):
    """The heading to the right of a heading."""
    return (heading[1], -heading[0])


def behind(inside, corner, heading):
    """Corner and heading of the next step."""
    left, right = sides_of(on_from(corner, heading), heading)
    way = turned_right(heading)
    if not in_ground(inside, left):
        way = turned_left(heading)
    elif not in_ground(inside, right):
        way = heading
    return (on_from(corner, way), way)


def before(inside, corner, heading):
    """Corner and heading of the step to which this one is the next."""
    start = (corner[0] - heading[0], corner[1] - heading[1])
    left, right = sides_of(start, heading)
    # The left comes first here, too: where the ground touches itself at a corner alone, this step came by a left turn.
    if not in_ground(inside, left):
        return (start, turned_right(heading))
    if not in_ground(inside, right):
        return (start, heading)
    return (start, turned_left(heading))
