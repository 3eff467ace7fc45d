"""Whether a Blamed is right: papers told by blame, others that are right, and bent ones."""

import copy
import itertools
import unittest

import hooks
import own
from own import Sore
from nevercaught.blames import Blamed, blame
from nevercaught.check_blames import shows_blame
from nevercaught.errors import BadBurns, BadNumber, BadSquares, Misfit
from nevercaught.papers import Denial, Paper

FAR = 10 ** 59
CUP = ((0, 10), (1, 8), (1, 9), (1, 10))
BLOCK = [(0, 8), (0, 9), (0, 10), (1, 8), (1, 9), (1, 10)]
BURNS = [(0, 10), (1, 10), (1, 9), (1, 8), None, (0, 8)]
WALLS = [(), (), (), (), CUP, CUP]


class Below(Blamed):
    """A class below Blamed."""


def is_right(boards, walls, turn, wall):
    """Whether the told wall of this turn is to blame for this one."""
    if not 1 <= turn <= len(boards):
        return False
    board = boards[turn - 1]
    if not set(board.held) <= set(wall) or any(s[0] < 0 or own.is_passed(board, s) for s in wall):
        return False
    return own.rank(wall, board.burnt)[:2] < own.rank(walls[turn - 1], board.burnt)[:2]


class Right(unittest.TestCase):
    def test_every_wall_of_small_runs(self):
        counts = {True: 0, False: 0}
        squares = [(x, y) for x in (0, 1) for y in (2, 3, 4, 5)]
        runs = (([(0, 3), (0, 5)], [[], [(0, 5)]], 1), ([(0, 3), (1, 3), (1, 2)], [[(0, 3)], [(0, 3), (1, 2)]], 2),
                ([(1, 5), (0, 5), None], [[], [], []], 1), ([(0, 4), (1, 4), (0, 2)], [[(1, 4)]], 3))
        for burns, walls, pace in runs:
            _, boards = own.game(burns, pace, lambda turn, board: walls[turn - 1])
            for many in range(len(squares) + 1):
                for wall in itertools.combinations(squares, many):
                    for turn in range(-1, len(walls) + 2):
                        told = is_right(boards, walls, turn, wall)
                        counts[told] += 1
                        self.assertIs(shows_blame(burns, walls, Blamed(turn, wall), pace), told, (turn, wall))
        self.assertGreater(min(counts.values()), 100)

    def test_told_ones(self):
        for burns, walls, pace in hooks.traps(80, 80):
            told = blame(burns, walls, pace)
            if told is None:
                continue
            self.assertIs(shows_blame(burns, walls, told, pace), True)
            self.assertIs(shows_blame(pace=pace, value=Blamed(told.turn, [list(s) for s in told.squares]), walls=walls, burns=burns), True)
            _, boards = own.game(burns, pace, lambda turn, board: walls[turn - 1])
            for turn in range(len(walls) + 2):
                self.assertIs(shows_blame(burns, walls, Blamed(turn, told.squares), pace), is_right(boards, walls, turn, told.squares))

    def test_whether_or_not_anyone_is_caught(self):
        self.assertIs(shows_blame([None], [[(0, 3)]], Blamed(1, [])), True)
        self.assertIsNone(blame([None], [[(0, 3)]]))
        self.assertIs(shows_blame([(0, 3)], [[]], Blamed(1, [(0, 3)])), True)
        self.assertIs(shows_blame([None], [[]], Blamed(1, [])), False)
        self.assertIs(shows_blame([], [], Blamed(1, [])), False)

    def test_as_much_cost_and_as_many_burnt_squares(self):
        self.assertIs(shows_blame([(0, 3)], [[(0, 3), (0, 4)]], Blamed(1, [(0, 3)])), False)
        self.assertIs(shows_blame([(0, 3)], [[(0, 3)]], Blamed(1, [(0, 3), (0, 4)])), False)
        self.assertIs(shows_blame([(0, 3)], [[(0, 3)]], Blamed(1, [])), False)


class Bent(unittest.TestCase):
    def refuses(self, value, burns=BURNS, walls=WALLS, pace=1):
        self.assertIs(shows_blame(burns, walls, value, pace), False)

    def test_turns(self):
        self.assertIs(shows_blame(BURNS, WALLS, Blamed(4, BLOCK)), True)
        for turn in (*own.STRANGE, 0, -1, -3, 4 - 6, 7, 8, FAR, 4.0, "4", [4], (4,), Sore()):
            self.refuses(Blamed(turn, BLOCK))
        self.refuses(Blamed(True, [(0, 10)]))
        self.assertIs(shows_blame(BURNS, WALLS, Blamed(1, [(0, 10)])), True)

    def test_squares(self):
        self.refuses(Blamed(4, BLOCK[::-1]))
        self.refuses(Blamed(4, BLOCK[1:] + BLOCK[:1]))
        for at in range(6):
            self.refuses(Blamed(4, BLOCK[:at] + BLOCK[at:at + 1] + BLOCK[at:]))
            for value in (*own.NO_SQUARES, Sore()):
                self.refuses(Blamed(4, BLOCK[:at] + [value] + BLOCK[at + 1:]))
        for value in (*own.NO_LISTS, Sore(), None, "08"):
            self.refuses(Blamed(4, value))
        self.refuses(Blamed(4, [(False, 8), *BLOCK[1:]]))
        self.refuses(Blamed(4, [(-1, 9), *BLOCK]))
        self.refuses(Blamed(4, [(0, -1), *BLOCK]))
        self.refuses(Blamed(4, [(0, 6), *BLOCK]))
        self.refuses(Blamed(5, BLOCK))

    def test_squares_that_are_held_or_passed(self):
        burns, walls = [(0, 5), (0, 6), (3, 3)], [[(0, 5)], [(0, 5)], [(0, 5), (3, 3)]]
        self.assertIs(shows_blame(burns, walls, Blamed(2, [(0, 5), (0, 6)])), True)
        self.refuses(Blamed(2, [(0, 6)]), burns, walls)
        self.assertIs(shows_blame(burns, walls, Blamed(3, [(0, 5), (0, 6)])), True)
        self.refuses(Blamed(3, [(0, 4), (0, 5), (0, 6)]), [(0, 5), (0, 6), (0, 3)], [[(0, 5)], [(0, 5)], [(0, 5), (3, 3)]])

    def test_other_values(self):
        for value in (*own.STRANGE, 0, 1, [], (), (4, BLOCK), [4, BLOCK], "blamed", Blamed, Sore(), Paper("blamed", 4, BLOCK),
                      Denial("blamed", 4, BLOCK), Below(4, BLOCK), BLOCK):
            self.refuses(value)
            self.refuses(value, [], [])

    def test_nothing_passed_is_changed(self):
        value = Blamed(4, BLOCK)
        kept = copy.deepcopy(value)
        shows_blame(BURNS, WALLS, value)
        self.assertEqual(value, kept)


class WrongInputs(unittest.TestCase):
    def raises(self, kind, part, *values):
        with self.assertRaises(kind) as caught:
            shows_blame(*values)
        self.assertIs(type(caught.exception), kind)
        self.assertEqual(caught.exception.part, part, values)

    def test_the_order_of_errors(self):
        for value in own.NO_BURNS:
            self.raises(BadBurns, "burns", value, 5, None, 0)
        for value in (None, 5, [5], [None], [[(1, 2), (1, 2)]], (1, 2), "ab", [(1, 2)]):
            self.raises(BadSquares, "walls", [None], value, None, 0)
        for value in (*own.STRANGE, 0, 13, -1, [], (1,)):
            self.raises(BadNumber, "pace", [None], [], None, value)
        for walls in ([], [[], []], [[(0, 0)]], [[(-1, 0)]]):
            self.raises(Misfit, "walls", [None], walls, None)
            self.raises(Misfit, "walls", [None], walls, Blamed(1, []), 1)


if __name__ == "__main__":
    unittest.main()
