"""The parts of a wall, and its holes."""

from nevercaught.checks import neighbours, taken_right


def parts_of(wall):
    """The parts of the wall, in ascending order."""
    return lots_of(taken_right(wall, "wall"), neighbours)


def rooted(wall):
    """The wall of the squares of all rooted parts."""
    kept = []
    for part in parts_of(wall):
        # A part is ascending, so its first square has the least x.
        if part[0][0] == 0:
            kept.extend(part)
    return tuple(sorted(kept))


def holes_of(wall):
    """The holes of the wall, in ascending order."""
    squares = taken_right(wall, "wall")
    inside = {square: True for square in squares}
    found = {}
    # What closes a hole holds together by neighbours, and the left half cannot close it alone: so one part does.
    for part in lots_of(squares, neighbours):
        for square in shut_by(part):
            if square not in inside:
                found[square] = True
    return lots_of(tuple(sorted(found)), touched)


def filled(wall):
    """The wall of its squares and those of all its holes."""
    squares = list(taken_right(wall, "wall"))
    for hole in holes_of(wall):
        squares.extend(hole)
    return tuple(sorted(squares))


def touched(square):
    """The eight squares that a square touches."""
    x, y = square
    aslant = ((x + 1, y + 1), (x + 1, y - 1), (x - 1, y + 1), (x - 1, y - 1))
    return neighbours(square) + aslant


def lots_of(squares, near):
    """The lots of squares in which one comes from each to each; near tells to which ones a square leads."""
    left = {square: True for square in squares}
    lots = []
    for square in squares:
        if square in left:
            lots.append(lot_from(square, left, near))
    return tuple(lots)


def lot_from(square, left, near):
    """Takes off those left all to which one comes from this one, and tells them."""
    del left[square]
    lot = [square]
    found = [square]
    while found:
        for other in near(found.pop()):
            if other in left:
                del left[other]
                lot.append(other)
                found.append(other)
    return tuple(sorted(lot))


def shut_by(part):
    """The squares outside of a part that it shuts in, alone or with the left half."""
    inside = {square: True for square in part}
    rows = sorted([square[1] for square in part])
    first, last = part[0][0], part[-1][0]
    air = air_round(inside, (max(0, first - 1), rows[0] - 1), (last + 1, rows[-1] + 1))
    shut = []
    for x in range(first, last):
        for y in range(rows[0], rows[-1]):
            if (x, y) not in inside and (x, y) not in air:
                shut.append((x, y))
    return shut


def air_round(inside, low, high):
    """The squares from low to high, one more round a part on each side, that are neither in it nor shut in."""
    start = (high[0], low[1])
    air = {start: True}
    found = [start]
    while found:
        for square in touched(found.pop()):
            within = low[0] <= square[0] <= high[0] and low[1] <= square[1] <= high[1]
            if within and square not in inside and square not in air:
                air[square] = True
                found.append(square)
    return air
