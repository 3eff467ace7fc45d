"""The items of texts."""

from nevercaught.checks import is_within
from nevercaught.errors import BadText

DIGITS = "0123456789"
MOST_DIGITS = 60


def items_of(text):
    """The items of a text; BadText for what is no string."""
    if not isinstance(text, str):
        raise BadText(0, 0)
    return text.split(" ")


def integer_of(item):
    """The integer that an item writes, None if it writes none."""
    digits = item[1:] if item.startswith("-") else item
    if not 1 <= len(digits) <= MOST_DIGITS:
        return None
    if not all([sign in DIGITS for sign in digits]):
        return None
    if digits[0] == "0" and item != "0":
        return None
    return int(item)


def integer_at(items, at):
    """The integer that the item with this index writes; BadText if it is missing or writes none."""
    number = integer_of(items[at]) if at < len(items) else None
    if number is None:
        raise BadText(0, at)
    return number


def square_at(items, at, before, least):
    """The square written from this index on, behind the square before, if there is one; least bounds its x, or None."""
    x = integer_at(items, at)
    if not is_within(x, least, None) or before is not None and x < before[0]:
        raise BadText(0, at)
    y = integer_at(items, at + 1)
    if before is not None and (x, y) <= before:
        raise BadText(0, at + 1)
    return (x, y)


def square_text(square):
    """The two integers of a square, or of another pair, with a blank between."""
    return f"{square[0]} {square[1]}"
