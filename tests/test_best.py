"""Best walls, and the flows that show them."""

import copy
import time
import unittest

import own
from nevercaught.best import Best, best_for, cheapest_cost
from nevercaught.boards import Board
from nevercaught.check_best import shows_best
from nevercaught.errors import BadBoard
from nevercaught.parts import parts_of
from nevercaught.walls import cost_of, length_of

# Far above what these answers take, so that a slow machine does not fail; an endless search still does.
SHORT = 5


def block(x, y, wide, tall):
    return [(x + a, y + b) for a in range(wide) for b in range(tall)]


class SmallBoards(unittest.TestCase):
    def check(self, lists):
        board = Board(*lists)
        best = best_for(board)
        told = own.trial(board)[0]
        self.assertEqual(best.squares, told, lists)
        self.assertEqual(cheapest_cost(board), own.rank(told, board.burnt)[0], lists)
        self.assertTrue(own.has_form(board, best), lists)
        self.assertTrue(own.flow_shows(board, best.squares, best.right, best.up), lists)
        self.assertIs(shows_best(board, best), True)

    def test_against_a_trial_of_all_walls(self):
        source = own.seeded(10)
        for _ in range(500):
            self.check(own.random_lists(source))

    def test_the_least_walls_that_are_best_are_single(self):
        source = own.seeded(11)
        for _ in range(150):
            board = Board(*own.random_lists(source, 8))
            sizes = [len(wall) for wall in own.trial(board)]
            self.assertEqual(sizes.count(min(sizes)), 1)

    def test_held_squares_alone(self):
        for held in ([(0, 1)], [(3, 3)], [(0, 1), (0, 4)], [(1, 0), (1, 2)], [(2, 1), (2, 3), (0, 2)], block(1, -3, 2, 2)):
            self.check((held, [], []))
            self.check((held, [(0, 2), (1, 1)] if (0, 2) not in held else [(1, 1)], []))

    def test_burnt_squares_that_are_passed_or_to_the_left(self):
        self.check(([], [(0, 2)], [(0, 2), (0, 1), (0, 3)]))
        self.check(([], [], [(-1, 1), (-2, 1), (0, 1), (0, -1), (0, 0)]))
        self.check(([], [(1, 1)], [(1, 1), (-1, 1), (0, -4)]))
        self.check(([(1, 1)], [(0, 3), (1, 2)], [(1, 1), (1, 2), (-3, 3)]))

    def test_rows_from_zero_down(self):
        self.check(([], [], [(1, -1), (1, 0), (0, 1), (1, 1)]))
        self.check(([(1, -2)], [], [(0, -2), (1, -3), (2, -2)]))
        self.check(([], [], block(1, -4, 2, 3)))

    def test_without_a_box(self):
        for lists in (([], [], []), ([], [(3, 3)], [(3, 3)]), ([], [], [(-1, 1), (0, 0), (0, -5)])):
            board = Board(*lists)
            self.assertEqual(best_for(board), Best((), (), ()))
            self.assertEqual((best_for(board).squares, best_for(board).right, best_for(board).up), ((), (), ()))
            self.assertEqual(cheapest_cost(board), 0)


class LargeBoards(unittest.TestCase):
    def check(self, lists):
        board = Board(*lists)
        began = time.perf_counter()
        best = best_for(board)
        self.assertLess(time.perf_counter() - began, SHORT)
        began = time.perf_counter()
        self.assertIs(shows_best(board, best), True)
        self.assertLess(time.perf_counter() - began, SHORT)
        self.assertTrue(own.has_form(board, best))
        self.assertTrue(own.flow_shows(board, best.squares, best.right, best.up))
        began = time.perf_counter()
        cost = cheapest_cost(board)
        self.assertLess(time.perf_counter() - began, SHORT)
        self.assertEqual(cost, own.rank(best.squares, board.burnt)[0])
        self.facts(board, best)
        return best

    def facts(self, board, best):
        self.assertEqual((cost_of(best.squares, board.burnt) % 2, length_of(best.squares) % 2), (0, 0))
        for part in parts_of(best.squares):
            if not set(part) & set(board.held):
                self.assertLessEqual(cost_of(part, board.burnt), 0)
        ground = set(best.squares)
        for square in board.burnt:
            if square[0] >= 0 and square not in ground and not board.is_passed(square):
                self.assertTrue(square[0] > 0 and not ground & set(own.around(square)))

    def test_eight_columns_and_nine_rows_with_eighteen_burnt_squares(self):
        source = own.seeded(12)
        for _ in range(60):
            low = source.choice((-8, -4, 0, 1))
            squares = block(0, low, 8, 9)
            passed = source.sample(squares, source.choice((0, 3, 10)))
            bare = [s for s in squares if s not in passed and (s[0] > 0 or s[1] > 0)]
            self.check((source.sample(bare, source.choice((0, 2, 5))), passed, source.sample(squares, 18)))

    def test_wide_boxes_with_few_burnt_squares(self):
        source = own.seeded(13)
        for count in (1, 2, 3, 5, 8):
            corners = source.sample([(60, 60), (60, -60), (0, 60)], min(count, 3))
            burnt = set(corners)
            while len(burnt) < count:
                burnt.add((source.randint(0, 60), source.randint(-60, 60)))
            self.check(([], [], sorted(burnt)))
        self.check(([(60, -60), (30, 0)], [(31, 0)], [(60, 60), (0, 20)]))

    def test_rooted_columns_join_far_rows(self):
        best = self.check(([], [], [(0, 1), (0, 60), (60, 1), (60, 60)]))
        self.assertEqual(best.squares, tuple((0, y) for y in range(1, 61)))

    def test_blocks(self):
        for wide, tall in ((7, 8), (8, 7), (1, 56), (28, 2), (56, 1), (4, 4)):
            for x, y in ((0, 1), (3, -20), (0, -3)):
                best = self.check(([], [], block(x, y, wide, tall)))
                whole = tuple(s for s in block(x, y, wide, tall) if s[0] > 0 or s[1] > 0)
                if (x, y) == (0, 1) or min(wide, tall) >= 7:
                    self.assertEqual(best.squares, whole)

    def test_a_block_with_a_gap(self):
        whole = block(30, 5, 7, 8)
        burnt = [s for s in whole if s[0] != 33]
        self.assertEqual(self.check(([], [], burnt)).squares, tuple(whole))
        self.assertEqual(self.check(([], [(33, 9)], burnt)).squares, tuple(s for s in whole if s != (33, 9)))

    def test_two_hundred_squares_of_each_kind(self):
        source = own.seeded(14)
        squares = block(0, -60, 61, 121)
        for many in ((0, 0, 200), (0, 200, 200), (200, 0, 0), (200, 200, 200), (30, 100, 60)):
            passed = source.sample(squares, many[1])
            bare = [s for s in squares if s not in passed and (s[0] > 0 or s[1] > 0)]
            self.check((source.sample(bare, many[0]), passed, source.sample(squares, many[2])))

    def test_patterns(self):
        checkers = [s for s in block(20, -7, 28, 14) if sum(s) % 2]
        lines = sorted({(x, y) for x in range(61) for y in (x, 60 - 2 * x, -x) if abs(y) <= 60})
        rings = [s for s in block(10, -20, 41, 41) if 10 in (s[0], 60 - s[0] + 10 - 20) or abs(s[1]) == 20]
        for burnt in (checkers, lines, rings, [(x, y) for x in range(3, 61, 6) for y in range(-57, 60, 6)]):
            self.check(([], [], burnt[:200]))

    def test_a_line_that_was_run(self):
        passed = [(0, y) for y in range(20)] + [(1, y) for y in range(19, 40)] + [(3, 39), (2, 39), (3, 40)]
        held = [(0, y) for y in range(20, 40)] + [(0, 40), (1, 40)]
        self.check((held, passed, [(0, 22), (0, 39), (1, 40), (4, 41), (2, 41), (3, 44), (40, 40), (2, 30)]))


class Answers(unittest.TestCase):
    def test_a_call_made_again_returns_an_equal_value(self):
        source = own.seeded(15)
        for _ in range(40):
            held, passed, burnt = own.random_lists(source)
            told = best_for(Board(held, passed, burnt))
            turned = [[list(square) for square in lot[::-1]] for lot in (held, passed, burnt)]
            self.assertEqual(best_for(Board(*turned)), told)
            self.assertEqual(best_for(board=Board(tuple(held), tuple(passed), tuple(burnt))), told)

    def test_what_a_best_has(self):
        best = best_for(Board([], [], [(0, 1)]))
        self.assertIs(type(best), Best)
        self.assertEqual((best.word, best.parts), ("best", (((0, 1),), ((2,),), ((-2,), (2,)))))
        self.assertEqual(cheapest_cost(board=Board([], [], [(0, 1)])), 0)

    def test_a_board_is_not_changed(self):
        board = Board([(1, 1)], [(1, 2)], [(0, 3), (0, 5)])
        kept = copy.deepcopy(board)
        best_for(board), cheapest_cost(board), shows_best(board, best_for(board))
        self.assertEqual(board, kept)

    def test_no_boards(self):
        for value in (*own.STRANGE, 0, [], (), ([], [], []), Board, best_for(Board([], [], [])), "board"):
            for call in (best_for, cheapest_cost):
                with self.assertRaises(BadBoard) as caught:
                    call(value)
                self.assertEqual(caught.exception.part, "board")


if __name__ == "__main__":
    unittest.main()
