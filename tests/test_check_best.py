"""Whether a Best is right: papers told by best_for, and bent ones."""

import copy
import unittest

import own
from own import Sore
from nevercaught.best import Best, best_for
from nevercaught.boards import Board
from nevercaught.check_best import shows_best
from nevercaught.errors import BadBoard
from nevercaught.papers import Denial, Paper


class Below(Best):
    """A class below Best."""


def loose(paper):
    """The parts of a Best as lists that can be bent."""
    return [[list(row) for row in part] for part in paper.parts]


def right_as_told(board, parts):
    squares, right, up = parts
    told = [tuple(square) for square in squares]
    return own.flow_shows(board, told, right, up)


def boards(seed, many, most=10):
    source = own.seeded(seed)
    found = []
    while len(found) < many:
        lists = own.random_lists(source, most)
        if own.box(own.Lists(*lists)):
            found.append(Board(*lists))
    return found


class Told(unittest.TestCase):
    def test_what_best_for_tells_is_right(self):
        for board in boards(20, 150):
            best = best_for(board)
            self.assertIs(shows_best(board, best), True)
            self.assertIs(shows_best(board=board, value=Best(*loose(best))), True)
            self.assertTrue(right_as_told(board, loose(best)))

    def test_papers_without_a_box(self):
        for lists in (([], [], []), ([], [(2, 2)], [(2, 2)]), ([], [], [(-3, 3), (0, -1)])):
            board = Board(*lists)
            self.assertIs(shows_best(board, Best([], [], [])), True)
            self.assertIs(shows_best(board, Best((), [], ())), True)
            for parts in (([(0, 1)], [], []), ([], [[]], []), ([], [], [[]]), ([], [[0]], [[0], [0]]), (None, [], []),
                          ("", [], []), ([], {}, []), ([], [], 0), ([], [], False), (Sore(), Sore(), Sore())):
                self.assertIs(shows_best(board, Best(*parts)), False, parts)

    def test_papers_of_other_boards(self):
        some = boards(21, 25)
        papers = [best_for(board) for board in some]
        for board in some:
            for paper in papers:
                form = own.has_form(board, paper)
                told = form and own.flow_shows(board, paper.squares, paper.right, paper.up)
                self.assertIs(shows_best(board, paper), told)


class Bent(unittest.TestCase):
    def check(self, board, parts):
        told = right_as_told(board, parts)
        self.assertIs(shows_best(board, Best(*parts)), told, (board.held, board.passed, board.burnt, parts))
        return told

    def test_one_amount_changed(self):
        counts = {True: 0, False: 0}
        for board in boards(22, 60):
            parts = loose(best_for(board))
            unit = len(board.burnt) + 1
            for rows in (parts[1], parts[2]):
                for row in rows:
                    for at, amount in enumerate(row):
                        for other in (amount + 1, amount - 1, -amount, 0, unit, -unit, unit + 1, -unit - 1, 10 ** 59):
                            row[at] = other
                            counts[self.check(board, parts)] += 1
                        row[at] = amount
        self.assertGreater(min(counts.values()), 1000)

    def test_four_amounts_changed_round_a_corner(self):
        counts = {True: 0, False: 0}
        for board in boards(23, 120):
            parts = loose(best_for(board))
            column, low, high = own.box(board)
            for x in range(1, column + 1):
                for row in range(1, high - low + 1):
                    for more in (1, -1, 2, -2):
                        self.turn(parts, x, row, more)
                        counts[self.check(board, parts)] += 1
                        self.turn(parts, x, row, -more)
        self.assertGreater(min(counts.values()), 100)

    def turn(self, parts, x, row, more):
        """Lets more go round a corner of four squares of the box."""
        _, right, up = parts
        right[row - 1][x - 1] += more
        right[row][x - 1] -= more
        up[row][x] += more
        up[row][x - 1] -= more

    def test_amounts_at_random(self):
        source = own.seeded(24)
        for board in boards(25, 60, 4):
            unit = len(board.burnt) + 1
            parts = loose(best_for(board))
            for _ in range(40):
                bent = copy.deepcopy(parts)
                for _ in range(source.randint(1, 4)):
                    row = source.choice(source.choice((bent[1], bent[2])))
                    row[source.randrange(len(row))] = source.randint(-unit, unit)
                self.check(board, bent)

    def test_other_walls_with_the_same_flow(self):
        for board in boards(26, 60, 7):
            parts = loose(best_for(board))
            squares = own.box_squares(board)
            for square in squares:
                other = {tuple(s) for s in parts[0]} ^ {square}
                self.assertFalse(self.check(board, [sorted(other), parts[1], parts[2]]))
            self.assertIs(self.check(board, [[], parts[1], parts[2]]), not parts[0])
            self.assertIs(self.check(board, [squares, parts[1], parts[2]]), squares == [tuple(s) for s in parts[0]])

    def test_the_widest_wall_that_costs_as_little(self):
        wider = 0
        for board in boards(27, 400, 8):
            walls = own.trial(board)
            widest = tuple(sorted({square for wall in walls for square in wall}))
            best = best_for(board)
            if widest != best.squares:
                wider += 1
                self.assertIs(shows_best(board, Best(widest, best.right, best.up)), False)
        self.assertGreater(wider, 10)

    def test_rows_too_many_or_too_few(self):
        for board in boards(28, 40):
            for part in (1, 2):
                parts = loose(best_for(board))
                rows = parts[part]
                wide = len(rows[0])
                for bent in (rows[:-1], rows[1:], [*rows, [0] * wide], [[0] * wide, *rows], [], [rows], [*rows, []],
                             [*rows[:-1], rows[-1][:-1]], [*rows[:-1], [*rows[-1], 0]], [[], *rows[1:]], None, 0, "0"):
                    changed = list(parts)
                    changed[part] = bent
                    self.assertIs(shows_best(board, Best(*changed)), False)
            parts = loose(best_for(board))
            self.assertIs(shows_best(board, Best(parts[0], parts[2], parts[1])), False)

    def test_squares_in_another_form(self):
        board = Board([], [], [(0, 3), (0, 5)])
        best = best_for(board)
        told = [list(square) for square in best.squares]
        for squares in (told[::-1], told[1:] + told[:1], told + told[-1:], told[:1] + told, told[:-1], told + [[0, 6]],
                        told + [[1, 5]], [[-1, 3]] + told, told[:2] + [[0, 5, 0]], told[:2] + [[0]], told[:2] + [None],
                        told[:2] + ["05"], [[False, 3]] + told[1:], told[:2] + [[0, 5.0]], None, 3, "squares", {}, [told],
                        [[0, 10 ** 59]], told[:2] + [Sore()], Sore()):
            self.assertIs(shows_best(board, Best(squares, best.right, best.up)), False, squares)
        self.assertIs(shows_best(board, Best(told, list(best.right), list(best.up))), True)

    def test_true_and_false_stand_for_no_number(self):
        board = Board([], [], [(1, 1), (2, 2)])
        parts = loose(best_for(board))
        changed = 0
        for rows in (parts[1], parts[2]):
            for row in rows:
                for at, amount in enumerate(row):
                    if amount in (0, 1):
                        row[at] = bool(amount)
                        self.assertIs(shows_best(board, Best(*parts)), False)
                        row[at] = amount
                        changed += 1
        self.assertGreater(changed, 3)
        one = Board([(1, 1)], [], [])
        best = best_for(one)
        self.assertIs(shows_best(one, Best([[1, 1]], best.right, best.up)), True)
        for square in ([True, 1], [1, True], (True, True)):
            self.assertIs(shows_best(one, Best([square], best.right, best.up)), False)
        rows = [[True if amount == 1 else amount for amount in row] for row in best.right]
        self.assertIs(shows_best(one, Best([[1, 1]], rows, best.up)), False)

    def test_amounts_of_other_kinds(self):
        board = Board([], [], [(1, 1)])
        best = best_for(board)
        for amount in (None, "1", 1.0, 0.0, [1], (), {}, b"\x01", Sore(), 1j):
            for part in (1, 2):
                parts = loose(best)
                for row in parts[part]:
                    for at, kept in enumerate(row):
                        row[at] = amount
                        self.assertIs(shows_best(board, Best(*parts)), False)
                        row[at] = kept
        for row in (None, 1, "11", {}, {0: 1}, Sore(), b"11"):
            parts = loose(best)
            parts[1][0] = row
            self.assertIs(shows_best(board, Best(*parts)), False)


class Values(unittest.TestCase):
    def test_values_of_other_kinds(self):
        board = Board([], [], [(0, 1)])
        best = best_for(board)
        self.assertIs(shows_best(board, best), True)
        for value in (*own.STRANGE, 0, 5, [], (), best.parts, list(best.parts), Best, Paper("best", *best.parts),
                      Denial("best", *best.parts), Below(*best.parts), board, Sore(), ("best", *best.parts)):
            self.assertIs(shows_best(board, value), False)

    def test_any_parts(self):
        board = Board([], [], [(0, 1)])
        for part in (*own.STRANGE, 0, [], [[]], [[[]]], [0], [[0]], [None], ["a"], Sore(), [Sore()], [[Sore()]], "ab"):
            for other in ([], [[2]], [[-2], [2]], part):
                for parts in ((part, other, other), (other, part, other), (other, other, part), ([(0, 1)], part, other)):
                    self.assertIs(shows_best(board, Best(*parts)), False)

    def test_no_boards(self):
        best = best_for(Board([], [], []))
        for value in (*own.STRANGE, 0, [], (), ([], [], []), Board, best):
            for paper in (best, None):
                with self.assertRaises(BadBoard) as caught:
                    shows_best(value, paper)
                self.assertEqual(caught.exception.part, "board")

    def test_nothing_passed_is_changed(self):
        board = Board([(1, 2)], [], [(0, 1), (2, 2)])
        parts = loose(best_for(board))
        kept = copy.deepcopy(parts)
        paper = Best(*parts)
        shows_best(board, paper)
        self.assertEqual(parts, kept)
        self.assertEqual(paper, Best(*kept))


if __name__ == "__main__":
    unittest.main()
