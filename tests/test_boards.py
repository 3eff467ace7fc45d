"""Boards, what fits them, and their boxes."""

import copy
import unittest

import own
from nevercaught.boards import Board, box_of, fits
from nevercaught.errors import BadBoard, BadSquare, BadSquares, Misfit

FAR = 10 ** 59
NO_BOARDS = (*own.STRANGE, [], (), ([], [], []), 0, 3, (0, 1), "Board", Board)


class Boards(unittest.TestCase):
    def raises(self, kind, part, call, *values):
        with self.assertRaises(kind) as caught:
            call(*values)
        self.assertEqual(caught.exception.part, part, values)

    def test_attributes_are_ascending_tuples(self):
        board = Board([[3, 1], (0, 2)], ((5, -5), [-4, 4]), [(FAR, 1), [-FAR, 2], (3, 1)])
        self.assertEqual(board.held, ((0, 2), (3, 1)))
        self.assertEqual(board.passed, ((-4, 4), (5, -5)))
        self.assertEqual(board.burnt, ((-FAR, 2), (3, 1), (FAR, 1)))
        for lot in (board.held, board.passed, board.burnt):
            self.assertTrue(all(type(square) is tuple for square in lot))
        self.assertEqual(Board(burnt=[(1, 1)], passed=[], held=[(2, 2)]), Board([(2, 2)], [], [(1, 1)]))

    def test_passed_tells_what_was_passed_alone(self):
        self.assertEqual(Board([], [], []).passed, ())
        self.assertEqual(Board([], [(0, 0), (0, -3)], []).passed, ((0, -3), (0, 0)))

    def test_a_later_change_of_a_list_changes_no_board(self):
        held, passed, burnt = [[1, 1]], [[2, 2]], [[3, 3]]
        board = Board(held, passed, burnt)
        for lot in (held, passed, burnt):
            lot[0][0] = 9
            lot.append((8, 8))
        self.assertEqual((board.held, board.passed, board.burnt), (((1, 1),), ((2, 2),), ((3, 3),)))

    def test_equality(self):
        board = Board([[1, 1], (0, 5)], [(2, 2)], [])
        self.assertEqual(board, Board(((0, 5), (1, 1)), ([2, 2],), ()))
        for other in (Board([(1, 1)], [(2, 2)], []), Board([(1, 1), (0, 5)], [], []), Board([(1, 1), (0, 5)], [(2, 2)], [(1, 1)]),
                      Board([(1, 1), (0, 5)], [(2, 2), (0, 0)], []), None, 1, (board.held, board.passed, board.burnt), "x"):
            self.assertIs(board == other, False)
            self.assertIs(board != other, True)

    def test_wrong_lists(self):
        for value in own.NO_LISTS:
            self.raises(BadSquares, "held", Board, value, value, value)
            self.raises(BadSquares, "passed", Board, [(-1, 0)], value, value)
            self.raises(BadSquares, "burnt", Board, [(-1, 0)], [(-1, 0)], value)

    def test_held_squares_that_do_not_fit(self):
        self.raises(Misfit, "held", Board, [(1, 1), (-1, 4)], [], [])
        self.raises(Misfit, "held", Board, [(-1, 4)], [(-1, 4)], [])
        self.raises(Misfit, "held", Board, [(1, 1), [2, 2]], [(2, 2)], [])
        for y in (0, -1, -7, -FAR):
            self.raises(Misfit, "held", Board, [(0, y)], [], [])
        self.assertEqual(Board([(0, 1), (1, 0), (1, -7)], [(0, 0)], [(1, -7)]).held, ((0, 1), (1, -7), (1, 0)))

    def test_is_passed(self):
        board = Board([], [(3, 1), (-2, 5), (0, 4)], [(6, 6)])
        for square in ((3, 1), [-2, 5], (0, 4), (0, 0), [0, -1], (0, -FAR)):
            self.assertIs(board.is_passed(square), True)
        for square in ((0, 1), (1, 0), (-1, 0), (1, -4), (6, 6), [3, 2], (FAR, FAR), (-1, -1)):
            self.assertIs(board.is_passed(square=square), False)
        for value in own.NO_SQUARES:
            self.raises(BadSquare, "square", board.is_passed, value)

    def test_fits(self):
        board = Board([(1, 1)], [(2, 1), (0, 5)], [(4, 4)])
        for wall in ([(1, 1)], ((7, -7), [1, 1]), [(1, 1), (4, 4), (0, 1)], [(1, 1), (FAR, FAR)]):
            self.assertIs(fits(board, wall), True)
        for wall in ([], [(0, 1)], [(1, 1), (2, 1)], [[0, 5], (1, 1)], [(1, 1), (0, 0)], [(1, 1), (0, -FAR)]):
            self.assertIs(fits(board=board, wall=wall), False)
        self.assertIs(fits(Board([], [], []), []), True)

    def test_fits_with_wrong_values(self):
        board = Board([], [], [])
        for value in NO_BOARDS:
            self.raises(BadBoard, "board", fits, value, None)
        for value in own.NO_LISTS:
            self.raises(BadSquares, "wall", fits, board, value)
        self.raises(Misfit, "wall", fits, board, [(3, 3), (-1, 0)])
        self.raises(Misfit, "wall", fits, Board([(1, 1)], [(-1, 0)], []), [(-1, 0)])

    def test_boxes(self):
        cases = (
            (([], [], []), None),
            (([], [], [(-1, 5)]), None),
            (([], [(3, 3)], [(3, 3), (0, 0), (0, -9), (-4, 4)]), None),
            (([], [(3, 3)], [(3, 3), (2, 9)]), (2, 9, 9)),
            (([(5, -5)], [], []), (5, -5, -5)),
            (([(0, 7)], [(9, 9)], [(1, -2), (0, -3), (-7, 30)]), (1, -2, 7)),
            (([(0, 7), (4, 1)], [], [(0, 7)]), (4, 1, 7)),
            (([(FAR, 1)], [], [(2, -FAR)]), (FAR, -FAR, 1)),
        )
        for lists, told in cases:
            self.assertEqual(box_of(Board(*lists)), told)
        for value in NO_BOARDS:
            self.raises(BadBoard, "board", box_of, value)

    def test_against_counts(self):
        source = own.seeded(9)
        for _ in range(200):
            board = Board(*own.random_lists(source))
            self.assertEqual(box_of(board), own.box(board))
            wall = own.random_wall(source, 3, 4, 0)
            told = set(board.held) <= set(wall) and not any(own.is_passed(board, square) for square in wall)
            self.assertIs(fits(board, wall), told)

    def test_nothing_passed_is_changed(self):
        lists = [[[3, 3], (1, 1)], [[2, 2]], [[5, 5], (0, 0)]]
        wall = [[3, 3], (1, 1)]
        kept = copy.deepcopy((lists, wall))
        board = Board(*lists)
        fits(board, wall), box_of(board), board.is_passed(wall[0])
        self.assertEqual((lists, wall), kept)


if __name__ == "__main__":
    unittest.main()
