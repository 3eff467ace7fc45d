"""Rows of burns for whole games: near the runner, ahead of it, behind it, and where they do nothing."""

import own
from nevercaught.stands import flown, start

KINDS = ("near", "row", "block", "cup", "behind", "left", "own", "again", "corners", "chase", "wait", "round", "mixed")


def shapes(source, kind, stand):
    """Squares that someone may wish to burn next, in this order."""
    x, y = stand.square
    a, b = x + source.randint(-1, 2), y + source.randint(1, 4)
    way = [step[2] for step in own.walk(stand.wall, stand.corner, stand.heading, 2 * stand.pace + 6)]
    if kind == "chase":
        return [source.choice(way[2 * stand.pace - 1:2 * stand.pace + 2])]
    if kind == "wait":
        return [way[source.randint(1, len(way) - 1)], source.choice(way), source.choice([s for w in way for s in own.around(w)])]
    if kind == "round":
        return source.sample(own.touched((x, y)), 6)
    if kind == "near":
        return [(x + source.randint(-2, 3), y + source.randint(-2, 4)) for _ in range(12)]
    if kind == "row":
        return [(k, b) for k in range(max(a - 2, 0), a + 6)]
    if kind == "block":
        return [(a + k % 3, b + k // 3) for k in range(9)]
    if kind == "cup":
        return [(a, b + 2), (a + 1, b + 2), (a + 1, b + 1), (a + 1, b), (a + 1, b - 1), (a, b - 1), (a, b)]
    if kind == "behind":
        return [s for s in stand.passed[::-1]] + [(x, y - 1), (x + 1, y - 1)]
    if kind == "left":
        return [(-1 - k, y + k) for k in range(6)]
    if kind == "own":
        return [stand.square, (x, y + 2), stand.square, (x, y + 1)]
    if kind == "again":
        return [*stand.burnt[:2], (x, y + 2), *stand.burnt[:3], (x + 1, y + 2)]
    if kind == "corners":
        return [(a + k, b + k) for k in range(4)] + [(a + k, b + 4 - k) for k in range(4)]
    return shapes(source, source.choice(KINDS[:-1]), stand)


def row_of(source, kind, pace, burns):
    """A row of about so many burns."""
    stand, row, waiting = start(pace), [], []
    while len(row) < burns:
        turn = []
        for _ in range(pace):
            if not waiting:
                waiting = shapes(source, kind, stand)
            turn.append(None if source.random() < 0.05 else waiting.pop(0))
        row += turn
        stand = flown(stand, turn)
    return row[:burns]


def rows(seed, many, burns=16):
    """Pairs of a pace and a row of burns, of all kinds and of paces 1 to 3 and 12."""
    source = own.seeded(seed)
    found = []
    for number in range(many):
        pace = (1, 2, 3, 1, 12)[number % 5]
        kind = source.choice(("chase", "wait", "cup")) if number % 2 else KINDS[number // 2 % len(KINDS)]
        found.append((pace, row_of(source, kind, pace, burns)))
    return found
