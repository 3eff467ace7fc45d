"""Whoever goes by a row of walls, and which wall is to blame."""

import copy
import time
import unittest

import games
import hooks
import own
from nevercaught.blames import Blamed, blame, caught_at, costs_of, first_passed, left_out, rises_of, wall_run
from nevercaught.check_blames import shows_blame
from nevercaught.errors import BadBurns, BadNumber, BadSquare, BadSquares, Misfit
from nevercaught.flights import flight
from nevercaught.papers import Denial, Paper
from nevercaught.stands import Stand

FAR = 10 ** 59
CUP = ((0, 10), (1, 8), (1, 9), (1, 10))
BLOCK = [(0, 8), (0, 9), (0, 10), (1, 8), (1, 9), (1, 10)]
BURNS = [(0, 10), (1, 10), (1, 9), (1, 8), None, (0, 8)]
WALLS = [(), (), (), (), CUP, CUP]
CALLS = (wall_run, costs_of, rises_of, left_out, caught_at, blame)
NO_ROWS = (*own.STRANGE, 0, 5, [5], [None], [(), 5], [[(1, 2), (1, 2)]], [[(1, 2)], [(1, 2), None]], (1, 2), [(1, 2)], [["ab"]], "ab",
           [[(1, True)]], ["a"], [[[1, 2, 3]]])


def random_run(source):
    """Burns and walls at any pace: walls that fit, but often cost more, and burns of all places."""
    pace = source.choice((1, 2, 3, 12))
    turns = source.randint(0, 6)
    walls = []
    burns = [source.choice((None, (source.randint(-1, 4), source.randint(-2, 14)), (0, 2 * pace * source.randint(1, turns))))
             for _ in range(pace * turns)]
    burns = burns[:len(burns) - source.randint(0, pace - 1)] if turns else burns

    def choose(turn, board):
        some = [(source.randint(0, 4), source.randint(-3, 16)) for _ in range(source.randint(0, 5))]
        walls.append({*board.held, *[s for s in some if not own.is_passed(board, s)]})
        return walls[-1]

    own.game(burns, pace, choose)
    return burns, [source.sample(sorted(wall), len(wall)) for wall in walls], pace


def runs(seed, many):
    source = own.seeded(seed)
    return [random_run(source) for _ in range(many)]


def played(burns, walls, pace):
    return own.game(burns, pace, lambda turn, board: walls[turn - 1])


def beside_line(wall, square):
    """Whether a square is on the right of a step of the line, which goes straight up above the wall."""
    steps = own.line(wall)
    return square in [step[2] for step in steps] or square[0] == 0 and square[1] >= steps[-1][0][1]


class Runs(unittest.TestCase):
    def test_against_a_walk_of_the_own(self):
        for burns, walls, pace in runs(60, 120) + hooks.traps(61, 60):
            stands, boards = played(burns, walls, pace)
            told = wall_run(burns, walls, pace)
            self.assertEqual([own.parts(stand) for stand in told], stands)
            self.assertTrue(type(told) is tuple and all(type(stand) is Stand for stand in told))
            self.assertEqual(wall_run(pace=pace, walls=walls, burns=burns), told)
            costs = []
            for turn, board in enumerate(boards, 1):
                last = walls[turn - 2] if turn > 1 else ()
                costs.append((own.rank(last, board.burnt)[0], own.rank(walls[turn - 1], board.burnt)[0]))
            self.assertEqual(costs_of(burns, walls, pace), tuple(costs))
            rises = tuple(turn for turn, pair in enumerate(costs, 1) if pair[0] < pair[1])
            self.assertEqual(rises_of(burns, walls, pace), rises)
            caught = [turn for turn, stand in enumerate(stands) if stand[2] in stand[7]]
            self.assertEqual(caught_at(burns, walls, pace), caught[0] if caught else None)

    def test_what_is_left_out(self):
        count = 0
        for burns, walls, pace in runs(62, 120) + hooks.traps(63, 40):
            boards = played(burns, walls, pace)[1]
            told = [tuple(s for s in board.burnt if not own.is_passed(board, s) and beside_line(wall, s))
                    for board, wall in zip(boards, walls)]
            self.assertEqual(left_out(burns, walls, pace), tuple(told))
            count += sum(len(lot) for lot in told)
            for turn, lot in enumerate(told, 1):
                for square in lot:
                    paper = Blamed(turn, sorted([*walls[turn - 1], square]))
                    self.assertIs(shows_blame(burns, walls, paper, pace), True)
        self.assertGreater(count, 100)

    def test_what_is_left_out_above_and_below(self):
        self.assertEqual(left_out([(0, 50), (0, -3)], [[(0, 3)], [[0, 3]]]), (((0, 50),), ((0, 50),)))
        self.assertEqual(left_out([(0, 4), (1, 3)], [[(0, 3)]], 2), (((0, 4), (1, 3)),))
        self.assertEqual(left_out([(0, 0), (0, 1), (0, 2)], [[(5, -9)]], 3), (((0, 1), (0, 2)),))
        self.assertEqual(left_out([(3, 3), (0, 3)], [[(0, 3)], [(0, 3)]]), ((), ()))

    def test_first_passed(self):
        for burns, walls, pace in runs(64, 40) + hooks.traps(65, 20):
            stands, _ = played(burns, walls, pace)
            turns = {}
            for turn in range(1, len(stands)):
                for step in own.walk(walls[turn - 1], stands[turn - 1][3], stands[turn - 1][4], 2 * pace):
                    turns.setdefault(step[2], turn)
            for square in {*list(turns)[::3], (0, 0), (0, -5), (0, 1), (-1, 2), (5, 5), (FAR, 0), (0, -FAR), (-1, 0)}:
                told = 0 if square[0] == 0 and square[1] <= 0 else turns.get(square)
                self.assertEqual(first_passed(burns, walls, square, pace), told)
            self.assertEqual(first_passed(burns, walls, [0, -5], pace=pace), 0)
            self.assertEqual(first_passed(pace=pace, square=(0, 1), walls=walls, burns=burns), turns.get((0, 1)))

    def test_no_turns(self):
        for pace in (1, 2, 12):
            self.assertEqual([own.parts(stand) for stand in wall_run([], [], pace)], [(pace, 0, (0, 0), (0, 1), (0, 1), (), ((0, 0),), ())])
            self.assertEqual([call((), (), pace) for call in CALLS[1:]], [(), (), (), None, None])
            self.assertEqual((first_passed([], [], (0, 0), pace), first_passed([], [], (0, 1), pace)), (0, None))

    def test_paces(self):
        burns, walls = [(0, 3), (0, 4), None, (1, 3), (1, 6)], [[(0, 3), (0, 4)]] * 3
        self.assertEqual(wall_run(burns, walls, 2), wall_run(burns + [None], walls, pace=2))
        self.assertEqual(len(wall_run(burns, walls[:2], 3)), 3)
        self.assertEqual(len(wall_run(burns, walls[:1], 12)), 2)
        self.assertEqual(wall_run([None], [[]]), wall_run([None], [[]], 1))
        for call in CALLS:
            self.assertEqual(call([None], [()]), call([None], [()], 1))

    def test_its_own_square_is_not_burnt(self):
        self.assertEqual(caught_at([(0, 0), (0, 2)], [(), ()]), None)
        self.assertEqual(wall_run([(0, 0), (0, 2)], [(), ()])[2].burnt, ())
        self.assertEqual(caught_at([(0, 4), None], [(), ()]), 2)

    def test_who_is_caught_goes_on(self):
        burns, walls = [(0, 2), (0, 2), None, (0, 8)], [()] * 4
        self.assertEqual([stand.square for stand in wall_run(burns, walls)], [(0, 0), (0, 2), (0, 4), (0, 6), (0, 8)])
        self.assertEqual((caught_at(burns, walls), wall_run(burns, walls)[4].burnt), (1, ((0, 2), (0, 8))))
        self.assertEqual(caught_at([(0, 3), (0, 8), None, None], [()] * 4), 4)


class Blames(unittest.TestCase):
    def check(self, burns, walls, pace=1):
        """The turn for which a wall is told to be to blame; what is told is right by a count of the own."""
        stands, boards = played(burns, walls, pace)
        told = blame(burns, walls, pace)
        if all(stand[2] not in stand[7] for stand in stands):
            self.assertIsNone(told)
            return None
        self.assertIs(type(told), Blamed)
        self.assertTrue(type(told.turn) is int and 1 <= told.turn <= len(boards))
        board, wall = boards[told.turn - 1], told.squares
        self.assertEqual(wall, tuple(sorted(set(wall))))
        self.assertLessEqual(set(board.held), set(wall))
        self.assertFalse([s for s in wall if s[0] < 0 or own.is_passed(board, s)])
        self.assertLess(own.rank(wall, board.burnt)[:2], own.rank(walls[told.turn - 1], board.burnt)[:2])
        self.assertIs(shows_blame(burns, walls, told, pace), True)
        self.assertEqual(blame([burn and list(burn) for burn in burns], [list(wall)[::-1] for wall in walls], pace=pace), told)
        return told.turn

    def test_many_traps(self):
        kinds = {"burnt first": 0, "below": 0, "dearer": 0, "closed": 0}
        for burns, walls, pace in hooks.traps(66, 400):
            turn = caught_at(burns, walls, pace)
            self.check(burns, walls, pace)
            if turn is None:
                continue
            stands, _ = played(burns, walls, pace)
            square = stands[turn][2]
            first = first_passed(burns, walls, square, pace)
            if first == 0:
                kinds["below"] += 1
            elif square in stands[first][7]:
                kinds["burnt first"] += 1
            elif any(first < rise <= turn for rise in rises_of(burns, walls, pace)):
                kinds["dearer"] += 1
            else:
                kinds["closed"] += 1
        self.assertGreater(min(kinds.values()), 15, kinds)

    def test_random_runs(self):
        caught = 0
        for burns, walls, pace in runs(67, 200):
            caught += self.check(burns, walls, pace) is not None
        self.assertGreater(caught, 20)

    def test_a_cup_in_time(self):
        self.assertEqual(self.check(BURNS, WALLS), 4)
        self.assertEqual(blame(BURNS, WALLS), Blamed(4, BLOCK))
        # Taken at once it costs more than the empty wall, until all of it is burnt.
        for first in range(1, 6):
            walls = [()] * (first - 1) + [CUP] * (7 - first)
            self.assertEqual(self.check(BURNS, walls), 4)
            self.assertEqual(rises_of(BURNS, walls), (first,) if first < 4 else ())

    def test_a_cup_too_late(self):
        self.assertIsNone(self.check(BURNS[:5] + [None], WALLS))
        self.assertEqual((caught_at(BURNS, WALLS[:4] + [(), ()]), self.check(BURNS, WALLS[:4] + [(), ()])), (5, 5))
        self.assertEqual((caught_at(BURNS, [()] * 6), self.check([*BURNS[:5], (0, 12)], [()] * 6)), (5, 5))

    def test_a_mouth_that_is_burnt_early(self):
        burns = [(0, 8), (0, 10), (1, 10), (1, 9), (1, 8), None]
        self.assertEqual((caught_at(burns, WALLS), self.check(burns, WALLS)), (4, 4))
        burns = [(0, 10), (1, 10), (1, 9), (0, 8), (1, 8), None]
        self.assertEqual((caught_at(burns, WALLS), self.check(burns, WALLS)), (4, 4))
        burns = [(0, 10), (1, 10), (1, 9), (1, 8), (0, 8), None]
        # Behind turn 4 it stands on (0, 8), so that this burn does nothing.
        self.assertIsNone(self.check(burns, WALLS[:3] + [CUP] * 3))
        self.assertEqual((caught_at(BURNS, WALLS), first_passed(BURNS, WALLS, (0, 8))), (6, 4))

    def test_a_straight_run_into_what_was_burnt(self):
        for pace in (1, 2, 3):
            burns = [(0, 4 * pace)]
            self.assertEqual(caught_at(burns + [None] * pace, [(), ()], pace), 2)
            self.assertEqual(self.check(burns + [None] * pace, [(), ()], pace), 2)
        self.assertEqual(self.check([(0, 24)], [()], 12), 1)

    def test_a_square_that_is_burnt_and_run_over(self):
        burns, walls = [(0, 3), None, None], [(), (), ()]
        self.assertIsNone(caught_at(burns, walls))
        self.assertIsNone(self.check(burns, walls))
        self.assertIs(shows_blame(burns, walls, Blamed(1, [(0, 3)])), True)

    def test_a_line_that_comes_back_below_the_start(self):
        wall = [(0, 4)] + [(1, y) for y in range(4, -21, -1)]
        for pace, turn, square in ((1, 4, (0, 0)), (1, 5, (0, -2)), (2, 2, (0, 0)), (2, 3, (0, -4)), (3, 2, (0, -4)), (12, 1, (0, -16))):
            for at in range(1, turn + 1):
                if (square, at) == ((0, 0), 1):
                    continue
                burns = [None] * (pace * turn)
                burns[pace * at - 1] = square
                self.assertEqual((caught_at(burns, [wall] * turn, pace), first_passed(burns, [wall] * turn, square, pace)), (turn, 0))
                self.assertEqual(self.check(burns, [wall] * turn, pace), 1)
                self.assertEqual(blame(burns, [wall] * turn, pace), Blamed(1, []))

    def test_a_wall_that_costs_more_while_someone_goes_in(self):
        cup = sorted([(0, 10), (1, 10), (2, 10), (2, 9), (2, 8), (2, 7), (1, 7)])
        burns = [(0, 10), (1, 10), (2, 10), None, None, None, (0, 7), None]
        walls = [()] * 3 + [cup] * 5
        self.assertEqual(rises_of(burns, walls), (4,))
        for turn, stand in enumerate(wall_run(burns, walls)):
            if turn and stand.square in stand.burnt:
                self.check(burns, walls)

    def test_whoever_takes_the_best_walls_is_never_blamed(self):
        source = own.seeded(68)
        for pace, burns in games.rows(69, 25):
            walls = [best.squares for best in flight(burns, pace).walls]
            self.assertEqual(wall_run(burns, walls, pace), flight(burns, pace).stands)
            self.assertEqual((caught_at(burns, walls, pace), rises_of(burns, walls, pace), blame(burns, walls, pace)), (None, (), None))
            self.assertFalse(any(left_out(burns, walls, pace)))
            _, boards = played(burns, walls, pace)
            for turn, board in enumerate(boards, 1):
                free = own.free_squares(board)
                for _ in range(2):
                    more = source.sample(free, min(len(free), source.randint(0, 6)))
                    for wall in ({*board.held, *more}, {*walls[turn - 1], *more}, {*walls[turn - 1]} - {*more} | {*board.held}):
                        self.assertIs(shows_blame(burns, walls, Blamed(turn, sorted(wall)), pace), False)

    def test_what_a_blamed_has(self):
        told = blame(BURNS, WALLS)
        self.assertEqual((told.word, told.parts), ("blamed", (told.turn, told.squares)))
        self.assertEqual(Blamed(squares=[[0, 1]], turn=None).parts, (None, ((0, 1),)))
        self.assertIs(bool(Blamed(0, 0)), True)
        self.assertTrue(issubclass(Blamed, Paper) and not issubclass(Blamed, Denial))

    def test_a_short_time(self):
        source = own.seeded(70)
        burns = [(source.randint(0, 60), source.randint(-60, 60)) for _ in range(24)]
        squares = [(x, y) for x in range(1, 61) for y in range(-60, 61)]
        wall = source.sample(squares, 200)
        for walls in ([wall] * 24, [wall[:8 * turn] for turn in range(24)], [[(60, -60), (60, 60)]] * 24):
            begun = time.process_time()
            for call in CALLS:
                call(burns, walls)
            first_passed(burns, walls, (60, 60))
            self.assertLess(time.process_time() - begun, 6)
        straight = [(0, 48), *[None] * 23]
        self.assertEqual(self.check(straight, [()] * 24), 24)


class WrongInputs(unittest.TestCase):
    def raises(self, kind, part, call, *values, **named):
        with self.assertRaises(kind) as caught:
            call(*values, **named)
        self.assertIs(type(caught.exception), kind)
        self.assertEqual(caught.exception.part, part, values)

    def test_the_order_of_errors(self):
        for call in CALLS:
            for value in own.NO_BURNS:
                self.raises(BadBurns, "burns", call, value, 5, 0)
                self.raises(BadBurns, "burns", call, value, [])
            for value in NO_ROWS:
                self.raises(BadSquares, "walls", call, [None], value, 0)
                self.raises(BadSquares, "walls", call, [None], value)
            for value in (*own.STRANGE, 0, 13, -1, FAR, [], (1,)):
                self.raises(BadNumber, "pace", call, [None], [], value)
                self.raises(BadNumber, "pace", call, [None], [[]], value)

    def test_the_order_of_errors_of_first_passed(self):
        for value in own.NO_BURNS:
            self.raises(BadBurns, "burns", first_passed, value, 5, 5, 0)
        for value in NO_ROWS:
            self.raises(BadSquares, "walls", first_passed, [None], value, 5, 0)
        for value in own.NO_SQUARES:
            self.raises(BadSquare, "square", first_passed, [None], [], value, 0)
            self.raises(BadSquare, "square", first_passed, [None], [[]], value)
        for value in (*own.STRANGE, 0, 13, -1, FAR, [], (1,)):
            self.raises(BadNumber, "pace", first_passed, [None], [], (0, 0), value)
        self.raises(Misfit, "walls", first_passed, [None], [], (0, 0), 1)
        self.raises(Misfit, "walls", first_passed, [None], [[(0, 0)]], (0, 0))

    def test_walls_too_few_and_too_many(self):
        for call in CALLS:
            for burns, many, pace in (([], 1, 1), ([None], 0, 1), ([None], 2, 1), ([None] * 3, 1, 2), ([None] * 3, 3, 2),
                                      ([None] * 12, 2, 12), ([None] * 13, 1, 12), ([None] * 24, 12, 1)):
                self.raises(Misfit, "walls", call, burns, [[]] * many, pace)

    def test_walls_that_do_not_fit(self):
        for call in CALLS:
            for walls in ([[(0, 5)], []], [[(0, 5)], [(0, 6)]], [[(0, 0)], [(0, 0)]], [[], [(0, -4)]], [[], [(0, 1)]], [[], [[0, 2]]],
                          [[(-1, 3)], [(-1, 3)]], [[], [(-FAR, 0)]], [[(0, 1)], [(0, 1), (1, 1)]]):
                self.raises(Misfit, "walls", call, [None, (3, 3)], walls)
            call([None, (3, 3)], [[], [(0, 3)]])
            call([None, (3, 3)], [[(0, 1)], [(0, 1), (0, 2)]])

    def test_nothing_passed_is_changed(self):
        burns, walls = [[0, 3], None, (0, 6)], [[[0, 3]], [(0, 3)], [[0, 4], [0, 3]]]
        walls[2] = [[0, 8], [0, 3]]
        kept = copy.deepcopy((burns, walls))
        for call in CALLS:
            call(burns, walls)
        first_passed(burns, walls, [0, 1])
        shows_blame(burns, walls, Blamed(1, []))
        self.assertEqual((burns, walls), kept)


if __name__ == "__main__":
    unittest.main()
