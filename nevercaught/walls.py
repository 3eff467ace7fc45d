"""Walls: their length, their cost, which one is better, and their texts."""

from nevercaught.checks import check_right, taken_number, taken_right, taken_squares
from nevercaught.texts import check_bar, check_end, items_of, square_at, square_text


def length_of(wall):
    """By how much the edge of the ground is longer than that of the left half alone."""
    return edge_of(taken_right(wall, "wall"))


def burnt_in(wall, burnt):
    """How many squares of the wall are burnt."""
    squares, fires = taken_with_burnt(wall, burnt)
    return len(both(squares, fires))


def cost_of(wall, burnt):
    """The length of the wall, less twice its burnt squares."""
    squares, fires = taken_with_burnt(wall, burnt)
    return price_of(squares, fires)


def is_better(one, other, burnt):
    """Whether the wall one is better than the wall other."""
    first = taken_squares(one, "one")
    second = taken_squares(other, "other")
    fires = taken_squares(burnt, "burnt")
    check_right(first, "one")
    check_right(second, "other")
    return rank_of(first, fires) < rank_of(second, fires)


def united(one, other):
    """The wall of all squares that are in one or in other."""
    first, second = taken_pair(one, other)
    return tuple(sorted(set(first) | set(second)))


def shared(one, other):
    """The wall of all squares that are in both."""
    first, second = taken_pair(one, other)
    return both(first, second)


def clipped(wall, column, low, high):
    """The wall of its squares up to a column, from one row to another one."""
    squares = taken_squares(wall, "wall")
    most = taken_number(column, None, None, "column")
    least = taken_number(low, None, None, "low")
    last = taken_number(high, None, None, "high")
    check_right(squares, "wall")
    return tuple([(x, y) for x, y in squares if x <= most and least <= y <= last])


def wall_text(wall):
    """The text of the wall."""
    squares = taken_right(wall, "wall")
    if not squares:
        return "-"
    return " / ".join([square_text(square) for square in squares])


def wall_read(text):
    """The wall whose text this is."""
    items = items_of(text)
    if items[0] == "-":
        check_end(items, 1)
        return ()
    squares = [square_at(items, 0, None, 0)]
    for at in range(2, len(items), 3):
        check_bar(items, at)
        squares.append(square_at(items, at + 1, squares[-1], 0))
    return tuple(squares)


def taken_with_burnt(wall, burnt):
    """The squares of the wall, and those that are burnt."""
    squares = taken_squares(wall, "wall")
    fires = taken_squares(burnt, "burnt")
    check_right(squares, "wall")
    return (squares, fires)


def taken_pair(one, other):
    """The squares of two walls."""
    first = taken_squares(one, "one")
    second = taken_squares(other, "other")
    check_right(first, "one")
    check_right(second, "other")
    return (first, second)


def both(first, second):
    """The squares of the first ascending tuple that are in the second one, too."""
    inside = {square: True for square in second}
    return tuple([square for square in first if square in inside])


def edge_of(squares):
    """The length of a wall of these right squares."""
    inside = {square: True for square in squares}
    length = 0
    for x, y in squares:
        if (x + 1, y) not in inside:
            length += 1
        if (x, y + 1) not in inside:
            length += 1
        if (x, y - 1) not in inside:
            length += 1
        # The left neighbour of a square with x = 0 is in the ground, and the square hides one edge of the left half.
        if x == 0:
            length -= 1
        elif (x - 1, y) not in inside:
            length += 1
    return length


def price_of(squares, fires):
    """The cost of a wall of these right squares."""
    return edge_of(squares) - 2 * len(both(squares, fires))


def rank_of(squares, fires):
    """A triple that is less for a better wall."""
    hits = len(both(squares, fires))
    return (edge_of(squares) - 2 * hits, -hits, len(squares))
