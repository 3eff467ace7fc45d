"""Counts of the tests' own, as the document tells them, and boards to try them on; nothing here uses the package's."""

import random

# Values of every kind that are neither numbers, lists nor tuples.
STRANGE = (None, True, False, "12", "", b"ab", 1.5, {}, {"a": 1}, {1, 2}, object(), len, range(2), int)
NO_SQUARES = (*STRANGE, 0, 7, (), [], (1,), [1, 2, 3], ("1", "2"), (True, 0), (0, False), (None, 1), (1.0, 2), ((1, 2), 3))
NO_BURNS = (*STRANGE, 0, 7, (1, 2), [1, 2], [(1, 2), 5], [(1, 2, 3)], [None, ()], [True], [(1, True)],
            [[(1, 2)]], [[None]], "ab", [None, "ab"], ((1, 2), None, 1.5), [("a", "b")])
NO_LISTS = (*STRANGE, 0, 7, (1, 2), [1, 2], [(1, 2), None], [(1, 2), 5], [(1, 2, 3)], [(1,)], [()], [(1, True)],
            [(1, 2), [1, 2]], ((3, 4), (0, 1), (3, 4)), [("a", "b")], [[(1, 2)]], ["ab"], [(1.0, 2)])


def around(square):
    x, y = square
    return [(x + 1, y), (x - 1, y), (x, y + 1), (x, y - 1)]


def touched(square):
    x, y = square
    return [(x + a, y + b) for a in (-1, 0, 1) for b in (-1, 0, 1) if a or b]


def length(wall):
    """How many pairs of a square of the wall and a neighbour outside, less those with x = 0."""
    squares = {tuple(square) for square in wall}
    pairs = sum(1 for square in squares for other in around(square) if other[0] >= 0 and other not in squares)
    return pairs - sum(1 for square in squares if square[0] == 0)


def rank(wall, burnt):
    """Less for a better wall."""
    hits = len({tuple(square) for square in wall} & {tuple(square) for square in burnt})
    return (length(wall) - 2 * hits, -hits, len(wall))


def is_passed(board, square):
    return square in board.passed or (square[0] == 0 and square[1] <= 0)


def box(board):
    squares = list(board.held) + [s for s in board.burnt if s[0] >= 0 and not is_passed(board, s)]
    if not squares:
        return None
    return max(x for x, _ in squares), min(y for _, y in squares), max(y for _, y in squares)


def box_squares(board):
    found = box(board)
    if found is None:
        return []
    column, low, high = found
    return [(x, y) for x in range(column + 1) for y in range(low, high + 1)]


def free_squares(board):
    shut = {tuple(s) for s in (*board.held, *board.passed)}
    return [s for s in box_squares(board) if s not in shut and not (s[0] == 0 and s[1] <= 0)]


def trial(board):
    """All walls in the box that fit and have the least cost and the most burnt squares, by trying every one."""
    free = free_squares(board)
    best, found = None, []
    for number in range(1 << len(free)):
        wall = list(board.held) + [square for k, square in enumerate(free) if number >> k & 1]
        here = rank(wall, board.burnt)[:2]
        if best is None or here < best:
            best, found = here, []
        if here == best:
            found.append(tuple(sorted(wall)))
    return sorted(found, key=len)


def amount_between(low, right, up, one, other):
    """How much goes from a square of the box, the lowest row of which is told, to a neighbour."""
    (x, y), (a, b) = one, other
    if a < 0:
        return 0
    if b == y:
        return right[y - low][x] if a > x else -right[y - low][a]
    return up[y - low + 1][x] if b > y else -up[b - low + 1][x]


def flow_shows(board, squares, right, up):
    """Whether amounts of the right form show this wall, as point [5] tells it."""
    unit = len(board.burnt) + 1
    wall, burnt = set(squares), set(board.burnt)
    if not wall <= set(box_squares(board)) or not set(board.held) <= wall or any(is_passed(board, s) for s in wall):
        return False
    if any(not -unit <= amount <= unit for row in (*right, *up) for amount in row):
        return False
    low = box(board)[1] if box(board) else 0
    goes = {(s, o): amount_between(low, right, up, s, o) for s in box_squares(board) for o in around(s)}
    for square in wall:
        for other in around(square):
            if other[0] >= 0 and other not in wall and goes[square, other] != unit:
                return False
    lacks = []
    for square in free_squares(board):
        due = (unit if square[0] == 0 else 0) + (2 * unit + 1 if square in burnt else 0)
        out = sum(goes[square, other] for other in around(square))
        if out > due or (out < due and square not in wall):
            return False
        if out < due:
            lacks.append(square)
    come = set(lacks) | set(board.held)
    found = list(come)
    while found:
        square = found.pop()
        for other in around(square):
            if other in wall and other not in come and goes[square, other] < unit:
                come.add(other)
                found.append(other)
    return come == wall


def has_form(board, paper):
    """Whether a Best is made of tuples of the right lengths, all the way in, and of integers alone."""
    found = box(board)
    if found is None:
        return (paper.squares, paper.right, paper.up) == ((), (), ())
    column, low, high = found
    tall = high - low + 1
    for rows, many in ((paper.right, tall), (paper.up, tall + 1)):
        if type(rows) is not tuple or len(rows) != many:
            return False
        for row in rows:
            if type(row) is not tuple or len(row) != column + 1 or any(type(amount) is not int for amount in row):
                return False
    return type(paper.squares) is tuple and list(paper.squares) == sorted(set(paper.squares))


def sides(corner, heading):
    """The squares beside a step, by its middle: half a square to its left and to its right."""
    (x, y), (a, b) = corner, heading
    left = (2 * x - a - b, 2 * y - b + a)
    right = (2 * x - a + b, 2 * y - b - a)
    return (left[0] // 2, left[1] // 2), (right[0] // 2, right[1] // 2)


def following(wall):
    """All steps that follow a wall, from one row below to one above."""
    ground = set(wall)
    rows = [0, *[y for _, y in wall]]
    found = []
    for x in range(0, max([0, *[x for x, _ in wall]]) + 2):
        for y in range(min(rows) - 1, max(rows) + 3):
            for heading in ((0, 1), (1, 0), (0, -1), (-1, 0)):
                left, right = sides((x, y), heading)
                if (left[0] < 0 or left in ground) and right[0] >= 0 and right not in ground:
                    found.append(((x, y), heading, right))
    return found


def next_of(wall, step):
    """The next step, as the document tells it."""
    (x, y), (a, b), _ = step
    left, right = sides((x + a, y + b), (a, b))
    if left[0] >= 0 and left not in wall:
        way = (-b, a)
    elif right[0] >= 0 and right not in wall:
        way = (a, b)
    else:
        way = (b, -a)
    corner = (x + way[0], y + way[1])
    return (corner, way, sides(corner, way)[1])


def walk(wall, corner, heading, many):
    """So many steps behind that of this corner and heading."""
    ground = {tuple(square) for square in wall}
    steps = [(tuple(corner), tuple(heading), None)]
    for _ in range(many):
        steps.append(next_of(ground, steps[-1]))
    return steps[1:]


def line(wall):
    """The steps of the line of a wall, from one row below it to two rows above it."""
    rows = [0, *[y for _, y in wall]]
    steps = walk(wall, (0, min(rows) - 1), (0, 1), 1)
    while steps[-1][0] != (0, max(rows) + 3):
        steps += walk(wall, *steps[-1][:2], 1)
    return steps


def game(burns, pace, choose):
    """The stands, as tuples, and the boards of whoever takes at each turn the wall that choose tells of turn and board."""
    square, corner, heading, wall, passed, burnt = (0, 0), (0, 1), (0, 1), (), {(0, 0)}, set()
    stands, boards = [(pace, 0, square, corner, heading, wall, ((0, 0),), ())], []
    for turn in range(1, -(-len(burns) // pace) + 1):
        burnt |= {tuple(b) for b in burns[pace * (turn - 1):pace * turn] if b is not None and tuple(b) != square}
        board = Lists(tuple(wall), tuple(sorted(passed)), tuple(sorted(burnt)))
        wall = tuple(sorted(choose(turn, board)))
        steps = walk(wall, corner, heading, 2 * pace)
        corner, heading, square = steps[-1]
        passed |= {step[2] for step in steps}
        boards.append(board)
        stands.append((pace, turn, square, corner, heading, wall, tuple(sorted(passed)), tuple(sorted(burnt))))
    return stands, boards


def parts(stand):
    """The parts of a Stand."""
    return (stand.pace, stand.turn, stand.square, stand.corner, stand.heading, stand.wall, stand.passed, stand.burnt)


def random_lists(source, most_free=10):
    """Held, passed and burnt squares of a small board, with few free squares."""
    while True:
        wide, tall, low = source.randint(1, 4), source.randint(1, 5), source.randint(-4, 2)
        squares = [(x, y) for x in range(-1, wide + 1) for y in range(low - 1, low + tall + 1)]
        burnt = source.sample(squares, min(len(squares), source.randint(0, 7)))
        share = source.choice((0, 0.1, 0.3, 0.5))
        passed = [s for s in squares if source.random() < share]
        bare = [s for s in squares if s[0] > 0 or (s[0] == 0 and s[1] > 0)]
        held = [s for s in bare if s not in passed and source.random() < source.choice((0, 0.05, 0.2))]
        lists = (held, passed, burnt)
        if len(free_squares(Lists(*lists))) <= most_free:
            return lists


class Sore:
    """A value that can be neither compared, measured, walked along nor turned into anything."""

    def refuse(self, *values):
        raise RuntimeError("touched")

    __eq__ = __ne__ = __lt__ = __le__ = __gt__ = __ge__ = __len__ = __bool__ = __iter__ = __getitem__ = refuse
    __int__ = __index__ = __add__ = __sub__ = __neg__ = __contains__ = __call__ = refuse
    __hash__ = None


class Lists:
    """The three lots of squares of a board, without the package."""

    def __init__(self, held, passed, burnt):
        self.held, self.passed, self.burnt = held, passed, burnt


def random_parts(source, wide=3, tall=4):
    """The parts of a Stand that need not have come of a game."""
    low = source.choice((-2, 0, 1, 3))
    wall = [s for s in random_wall(source, wide, tall, low) if s[0] > 0 or s[1] > 0]
    corner, heading, square = source.choice(following(wall))
    squares = [(x, y) for x in range(-1, wide + 1) for y in range(low - 1, low + tall + 1)]
    share, fire = source.choice((0, 0.2, 0.6)), source.choice((0.05, 0.2, 0.4))
    passed = {square, *[s for s in squares if s not in wall and source.random() < share]}
    burnt = [s for s in squares if source.random() < fire]
    pace = source.choice((1, 1, 1, 2, 3, 12))
    return (pace, source.randint(0, 30), square, corner, heading, tuple(sorted(wall)), tuple(sorted(passed)), tuple(sorted(burnt)))


def random_wall(source, wide=4, tall=5, low=-2, share=None):
    share = source.random() if share is None else share
    return [(x, y) for x in range(wide) for y in range(low, low + tall) if source.random() < share]


def seeded(number):
    return random.Random(number)
