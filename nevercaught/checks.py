"""What is an integer, a square, a list of squares, a row of burns; and how arguments of these kinds are taken."""

from nevercaught.errors import BadBurns, BadNumber, BadSquare, BadSquares, Misfit


def is_integer(value):
    """Whether the value is an integer; True and False are none."""
    return isinstance(value, int) and not isinstance(value, bool)


def is_within(value, least, most):
    """Whether the value is an integer from least to most, None being no bound."""
    if not is_integer(value):
        return False
    if least is not None and value < least:
        return False
    return most is None or value <= most


def is_square(value):
    """Whether the value is a list or tuple of two integers."""
    if not isinstance(value, (list, tuple)) or len(value) != 2:
        return False
    return is_integer(value[0]) and is_integer(value[1])


def are_squares(value):
    """Whether the value is a list or tuple of unlike squares."""
    if not isinstance(value, (list, tuple)):
        return False
    if not all([is_square(item) for item in value]):
        return False
    return len({(item[0], item[1]) for item in value}) == len(value)


def is_burn(value):
    """Whether the value is a square or None."""
    return value is None or is_square(value)


def are_burns(value):
    """Whether the value is a list or tuple of burns."""
    return isinstance(value, (list, tuple)) and all([is_burn(item) for item in value])


def squares_of(values):
    """The ascending tuple of several squares."""
    return taken_squares(values, "values")


def around(square):
    """The four neighbours: to the right, to the left, above, below."""
    return neighbours(taken_square(square, "square"))


def neighbours(square):
    """The four neighbours of a pair that is known to be a square."""
    x, y = square
    return ((x + 1, y), (x - 1, y), (x, y + 1), (x, y - 1))


def taken_square(square, part):
    """The square that was passed for this parameter, as a tuple."""
    if not is_square(square):
        raise BadSquare(part)
    return (square[0], square[1])


def taken_squares(squares, part):
    """The squares that were passed for this parameter, as an ascending tuple."""
    if not are_squares(squares):
        raise BadSquares(part)
    return tuple(sorted([(square[0], square[1]) for square in squares]))


def taken_burns(burns, part):
    """The row of burns that was passed for this parameter, as a tuple."""
    if not are_burns(burns):
        raise BadBurns(part)
    return tuple([burn_in(burn) for burn in burns])


def burn_in(burn):
    """A burn, a square being told as a tuple."""
    return None if burn is None else (burn[0], burn[1])


def taken_burn(burn, part):
    """The burn that was passed for this parameter."""
    if not is_burn(burn):
        raise BadSquare(part)
    return burn_in(burn)


def taken_number(number, least, most, part):
    """The integer that was passed for this parameter."""
    if not is_within(number, least, most):
        raise BadNumber(part)
    return number


def check_right(squares, part):
    """Raises Misfit unless all squares, those of a wall, are right squares."""
    if any([square[0] < 0 for square in squares]):
        raise Misfit(part)


def taken_right(squares, part):
    """The wall that was passed for this parameter, where no parameter comes behind it."""
    taken = taken_squares(squares, part)
    check_right(taken, part)
    return taken
