"""Where the line of a wall comes to a square again, and what it shuts in there."""

from nevercaught.checks import neighbours, taken_number, taken_right
from nevercaught.errors import Misfit
from nevercaught.lines import in_ground, whole_line


def meetings_of(wall):
    """The pairs of numbers of steps that have the same square on their right."""
    numbers = {}
    for at, step in enumerate(whole_line(wall)):
        numbers.setdefault(step[2], []).append(at)
    pairs = []
    for lot in numbers.values():
        for k, one in enumerate(lot):
            pairs.extend([(one, other) for other in lot[k + 1:]])
    return tuple(sorted(pairs))


def shut_in(wall, one, other):
    """The squares that two steps of the line of the wall shut in."""
    squares, loop = taken_loop(wall, one, other)
    return met_from(squares, loop)


def closed_at(wall, one, other):
    """The wall closed at two steps of its line."""
    squares, loop = taken_loop(wall, one, other)
    return closed(squares, loop)


def taken_loop(wall, one, other):
    """The squares of the wall, and those on the right of its steps from one to other, the first being the last."""
    squares = taken_right(wall, "wall")
    line = whole_line(squares)
    taken_number(one, 0, len(line) - 1, "one")
    taken_number(other, one + 1, len(line) - 1, "other")
    if line[one][2] != line[other][2]:
        raise Misfit("square")
    return (squares, [step[2] for step in line[one:other + 1]])


def met_from(squares, loop):
    """All squares outside of the wall to which one comes from those of the loop, but never by its first one."""
    inside = {square: True for square in squares}
    inside[loop[0]] = True
    met = {square: True for square in loop if square != loop[0]}
    found = list(met)
    while found:
        for square in neighbours(found.pop()):
            if square not in met and not in_ground(inside, square):
                met[square] = True
                found.append(square)
    return tuple(sorted(met))


def closed(squares, loop):
    """The wall with the loop's first square put in, and with all that the loop shuts in."""
    return tuple(sorted(list(squares) + [loop[0]] + list(met_from(squares, loop))))
