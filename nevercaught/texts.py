"""The items of texts."""

from nevercaught.checks import is_within
from nevercaught.errors import BadText

DIGITS = "0123456789"
MOST_DIGITS = 60


def items_of(text):
    """The items of a text; BadText for what is no string."""
    if not isinstance(text, str):
        raise BadText(0, 0)
    return text.split(" ")


def integer_of(item):
    """The integer that an item writes, None if it writes none."""
    digits = item[1:] if item.startswith("-") else item
    if not 1 <= len(digits) <= MOST_DIGITS:
        return None
    if not all([sign in DIGITS for sign in digits]):
        return None
    if digits[0] == "0" and item != "0":
        return None
    return int(item)


def integer_at(items, at):
    """The integer that the item with this index writes; BadText if it is missing or writes none."""
    number = integer_of(items[at]) if at < len(items) else None
    if number is None:
        raise BadText(0, at)
    return number


def number_at(items, at, least, most):
    """The integer written at this index, which is within these bounds."""
    number = integer_at(items, at)
    if not is_within(number, least, most):
        raise BadText(0, at)
    return number


def check_word(items, at, word):
    """Raises BadText unless the item with this index is this word."""
    if at >= len(items) or items[at] != word:
        raise BadText(0, at)


def check_bar(items, at):
    """Raises BadText unless the item with this index is a bar."""
    check_word(items, at, "/")


def check_end(items, at):
    """Raises BadText if there is an item with this index."""
    if at < len(items):
        raise BadText(0, at)


def burn_at(items, at):
    """The burn written from this index on, and the index behind it."""
    if at < len(items) and items[at] == "-":
        return (None, at + 1)
    return ((integer_at(items, at), integer_at(items, at + 1)), at + 2)


def burns_at(items, at):
    """The burns, one or more, written from this index to the end, with a bar between two."""
    burn, at = burn_at(items, at)
    burns = [burn]
    while at < len(items):
        check_bar(items, at)
        burn, at = burn_at(items, at + 1)
        burns.append(burn)
    return tuple(burns)


def square_at(items, at, before, least):
    """The square written from this index on, behind the square before, if there is one; least bounds its x, or None."""
    x = integer_at(items, at)
    if not is_within(x, least, None) or before is not None and x < before[0]:
        raise BadText(0, at)
    y = integer_at(items, at + 1)
    if before is not None and (x, y) <= before:
        raise BadText(0, at + 1)
    return (x, y)


def square_text(square):
    """The two integers of a square, or of another pair, with a blank between."""
    return f"{square[0]} {square[1]}"


def burn_text(burn):
    """The two integers of a burn, or the sign for None."""
    return "-" if burn is None else square_text(burn)
