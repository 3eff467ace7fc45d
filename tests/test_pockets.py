"""Steps that have the same square on their right, what they shut in, and walls closed there."""

import copy
import time
import unittest

import games
import own
from nevercaught.errors import BadNumber, BadSquares, Misfit
from nevercaught.flights import flight
from nevercaught.lines import whole_line
from nevercaught.pockets import closed_at, meetings_of, shut_in

FAR = 10 ** 59
NOOK = [(0, 4), (1, 4), (1, 3), (1, 2)]
GATE = [(0, 1), (0, 3), (1, 3), (1, 2)]


def beside(wall):
    """The squares on the right of the steps of the line, from the wall's lowest row to the one above its highest row."""
    rows = [0, *[y for _, y in wall]]
    steps = own.line(wall)
    corners = [step[0] for step in steps]
    return [step[2] for step in steps[corners.index((0, min(rows))) + 1:corners.index((0, max(rows) + 1)) + 1]]


def shut(wall, squares, one, other):
    """What two steps shut in: all met from neighbour to neighbour, row by row until nothing more is met."""
    shunned = {*wall, squares[one]}
    met = {square for square in squares[one:other + 1]} - {squares[one]}
    while True:
        more = {near for square in met for near in own.around(square) if near[0] >= 0} - shunned - met
        if not more:
            return met
        met |= more


def ring(x, y, size, without):
    """The squares round a middle, so far away, but for some."""
    return [(x + a, y + b) for a in range(-size, size + 1) for b in range(-size, size + 1)
            if max(abs(a), abs(b)) == size and (x + a, y + b) not in without]


class Meetings(unittest.TestCase):
    def check(self, wall):
        squares = beside(wall)
        pairs = [(one, other) for one in range(len(squares)) for other in range(one + 1, len(squares)) if squares[one] == squares[other]]
        self.assertEqual(meetings_of(wall), tuple(pairs))
        self.assertEqual([step[2] for step in whole_line(wall)], squares)
        for one, other in pairs:
            met = shut(wall, squares, one, other)
            self.assertEqual(shut_in(wall, one, other), tuple(sorted(met)))
            whole = closed_at(wall, one, other)
            self.assertEqual(whole, tuple(sorted({*wall, squares[one], *met})))
            many = other - one + 1
            self.assertLessEqual(own.length(whole), own.length(wall) - many + (1 if many % 2 else 2))
            self.assertFalse(met & set(squares[:one]))
        return len(pairs)

    def test_walls_of_all_kinds(self):
        source = own.seeded(50)
        count = 0
        for _ in range(250):
            wall = [s for s in own.random_wall(source, 5, 6, source.choice((-8, -3, 0, 2))) if s[0] > 0 or s[1] > 0]
            source.shuffle(wall)
            count += self.check(wall)
        self.assertGreater(count, 1000)

    def test_walls_with_squares_that_are_passed_on_each_board(self):
        source = own.seeded(51)
        for _ in range(60):
            self.check(own.random_wall(source, 3, 6, -4))

    def test_cups_and_nooks(self):
        self.assertEqual(self.check(NOOK), 4)
        self.assertEqual(self.check(GATE), 8)
        self.assertEqual(self.check([]), 0)
        self.assertEqual(self.check([(0, 4)]), 1)
        self.check([(0, 9), (1, 9), (2, 9), (3, 9), (3, 8), (3, 7), (3, 6), (2, 6), (1, 6)])
        self.check([(0, 9), (1, 9), (2, 9), (2, 8), (2, 7), (0, 6), (1, 6), (2, 6), (1, 8)])
        self.check([(0, 4), (0, 5), (1, 5), (2, 5), (3, 5), (3, 4), (3, 3), (3, 2), (2, 2), (1, 2)])

    def test_a_pocket_with_a_mouth(self):
        wall = [(0, 10), (1, 10), (1, 9), (1, 8), (0, 7), (1, 7)]
        squares = beside(wall)
        self.assertNotIn((0, 8), squares)
        cup = [(0, 10), (1, 8), (1, 9), (1, 10)]
        squares = beside(cup)
        one, other = squares.index((0, 8)), len(squares) - 1 - squares[::-1].index((0, 8))
        self.assertEqual(shut_in(cup, one, other), ((0, 9),))
        self.assertEqual(closed_at(cup, one, other), tuple((x, y) for x in (0, 1) for y in (8, 9, 10)))
        self.assertEqual((own.length(cup), own.length(closed_at(cup, one, other))), (8, 4))

    def test_rings_with_squares_left_out(self):
        for without in ([(4, 7)], [(4, 3)], [(6, 5)], [(2, 5)], [(2, 3)], [(6, 7)], [(4, 7), (4, 6)]):
            wall = [(0, 5), (1, 5), *ring(4, 5, 2, without)]
            if (2, 5) in without or (2, 3) in without:
                wall.append((1, 4))
            self.check(wall)
        wide = [(0, 5), (1, 5), *ring(6, 6, 4, [(2, 7)])]
        self.assertGreater(self.check(wide), 0)
        deep = max((shut_in(wide, *pair) for pair in meetings_of(wide)), key=len)
        self.assertEqual(len(deep), 49)

    def test_an_island_in_what_is_shut_in(self):
        wall = [(0, 5), (1, 5), *ring(6, 6, 4, [(2, 7)]), (6, 6), (7, 6)]
        deep = max((shut_in(wall, *pair) for pair in meetings_of(wall)), key=len)
        self.assertEqual(len(deep), 47)
        self.assertNotIn((6, 6), deep)
        self.check(wall)

    def test_squares_that_touch_at_corners(self):
        self.check([(0, 2), (1, 3), (2, 4), (1, 5), (0, 6)])
        self.check([(0, 2), (1, 1), (2, 2), (1, 3), (0, 4), (2, 4)])
        self.check([(k, k + 1) for k in range(6)] + [(k, 13 - k) for k in range(6)] + [(6, 7)])

    def test_walls_below_row_0(self):
        for wall in ([(1, -3), (1, -4), (2, -3)], [(0, -3)], [(0, -1), (1, -1), (1, -2), (1, -3)], [(5, -60)]):
            self.check(wall)

    def test_walls_of_games(self):
        for pace, burns in games.rows(52, 30):
            for stand in flight(burns, pace).stands[-2:]:
                self.check(list(stand.wall))

    def test_a_short_time(self):
        source = own.seeded(53)
        block = [(x, y) for x in range(8) for y in range(41, 61)]
        comb = [(0, 2 * k) for k in range(1, 9)] + [(x, 2 * k) for k in range(1, 9) for x in range(1, 23)]
        walls = [source.sample([(x, y) for x in range(20) for y in range(41, 61)], 200), block, comb,
                 [(60, -60), (0, 60)], [(0, 60), *ring(26, 35, 25, [(1, 41)])][:200]]
        for wall in walls:
            begun = time.process_time()
            pairs = meetings_of(wall)
            for one, other in pairs[:5]:
                shut_in(wall, one, other), closed_at(wall, one, other)
            self.assertLess(time.process_time() - begun, 3)


class Arguments(unittest.TestCase):
    def test_lists_and_tuples_alike(self):
        wall = [list(square) for square in NOOK[::-1]]
        kept = copy.deepcopy(wall)
        self.assertEqual(meetings_of(wall), meetings_of(tuple(NOOK)))
        self.assertEqual(shut_in(wall, 2, 6), ((0, 3),))
        self.assertEqual(closed_at(other=6, one=2, wall=wall), closed_at(NOOK, 2, 6))
        self.assertEqual(shut_in(other=6, one=2, wall=wall), shut_in(NOOK, 2, 6))
        self.assertEqual(meetings_of(wall=wall), meetings_of(NOOK))
        self.assertEqual(wall, kept)
        for told in (meetings_of(wall), shut_in(wall, 2, 6), closed_at(wall, 2, 6)):
            self.assertTrue(type(told) is tuple and all(type(pair) is tuple for pair in told))


class WrongInputs(unittest.TestCase):
    def raises(self, kind, part, call, *values):
        with self.assertRaises(kind) as caught:
            call(*values)
        self.assertIs(type(caught.exception), kind)
        self.assertEqual(caught.exception.part, part, values)

    def test_walls(self):
        for value in own.NO_LISTS:
            self.raises(BadSquares, "wall", meetings_of, value)
            for call in (shut_in, closed_at):
                self.raises(BadSquares, "wall", call, value, value, value)
                self.raises(BadSquares, "wall", call, value, 2, 6)
        for wall in ([(-1, 0)], NOOK + [[-FAR, 3]]):
            self.raises(Misfit, "wall", meetings_of, wall)
            for call in (shut_in, closed_at):
                self.raises(Misfit, "wall", call, wall, None, None)
                self.raises(Misfit, "wall", call, wall, 2, 6)

    def test_steps(self):
        last = len(whole_line(NOOK)) - 1
        for call in (shut_in, closed_at):
            for value in (*own.STRANGE, -1, -FAR, last + 1, FAR, [], (1,), (0, 1)):
                self.raises(BadNumber, "one", call, NOOK, value, 6)
                self.raises(BadNumber, "one", call, NOOK, value, value)
            for value in (*own.STRANGE, -1, 0, 1, 2, last + 1, FAR, [], (1,), (0, 1)):
                self.raises(BadNumber, "other", call, NOOK, 2, value)
            self.raises(BadNumber, "other", call, NOOK, last, last)
            self.raises(BadNumber, "other", call, NOOK, last, last + 1)
            self.raises(BadNumber, "other", call, [], 0, 0)
            self.raises(BadNumber, "one", call, [], 1, 2)

    def test_steps_beside_unlike_squares(self):
        line = whole_line(NOOK)
        pairs = meetings_of(NOOK)
        for one in range(len(line)):
            for other in range(one + 1, len(line)):
                for call in (shut_in, closed_at):
                    if (one, other) in pairs:
                        call(NOOK, one, other)
                    else:
                        self.raises(Misfit, "square", call, NOOK, one, other)


if __name__ == "__main__":
    unittest.main()
