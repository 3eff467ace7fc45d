"""Rows of walls by which someone is caught, for the tests: walls with pockets, out of which one comes by the same square."""

import own


def wall_of(source):
    """A wall that begins at x = 0 and goes on in runs, so that it often has pockets."""
    x, y = 0, source.randint(2, 9)
    wall = {(x, y)}
    way = (1, 0)
    for _ in range(source.randint(1, 5)):
        for _ in range(source.randint(1, 4)):
            x, y = x + way[0], y + way[1]
            if x > 0 or x == 0 and y > 0:
                wall.add((x, y))
            x = max(x, 0)
        way = source.choice([(0, -1), (0, -1), (way[1], way[0]), (-way[1], -way[0])])
    return wall


def walls_of(source, wall, pace, turns):
    """A row of walls that ends with this one, taken at once or in pieces, and the squares on which it leads."""
    walls, first = [], source.randint(0, 4)
    pieces = source.random() < 0.4

    def choose(turn, board):
        add = {s for s in wall if not own.is_passed(board, s)} if turn > first else set()
        if pieces:
            add = {s for s in add if source.random() < 0.5}
        walls.append(tuple(sorted({*board.held, *add})))
        return walls[-1]

    stands, _ = own.game([None] * (pace * turns), pace, choose)
    return walls, [stand[2] for stand in stands], [set(stand[6]) for stand in stands]


def burns_of(source, squares, pace, turns, burn, turn):
    """Burns of these squares, in any order, and of one square at this turn."""
    squares = source.sample(sorted(squares), len(squares))
    rows = []
    for number in range(1, turns + 1):
        row = [burn] if number == turn else []
        while len(row) < pace:
            row.append(squares.pop() if squares and source.random() < 0.9 else None)
        rows += row
    return rows


def traps(seed, many):
    """Triples of burns, walls and a pace by which someone is caught, mostly on a square that was passed before."""
    source = own.seeded(seed)
    found = []
    while len(found) < many:
        pace = source.choice((1, 1, 1, 2, 3))
        turns = source.randint(2, 14)
        wall = wall_of(source)
        walls, squares, passed = walls_of(source, wall, pace, turns)
        again = [turn for turn in range(1, turns + 1) if squares[turn] in passed[turn - 1]]
        if not again and len(found) % 8:
            continue
        late = source.choice(again or range(1, turns + 1))
        square = squares[late]
        times = [turn for turn in range(1, late + 1) if squares[turn - 1] != square]
        if times:
            found.append((burns_of(source, wall, pace, turns, square, source.choice(times)), walls, pace))
    return found
