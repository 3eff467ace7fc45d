"""Pictures, sign by sign."""

import copy
import time
import unittest

import games
import own
from nevercaught.errors import BadSquare, BadStand, Misfit, TooMany
from nevercaught.flights import flight
from nevercaught.pictures import picture
from nevercaught.stands import Stand, start


def sign(stand, square):
    """The first sign that holds."""
    if square == stand.square:
        return "@"
    if square in stand.burnt:
        return "#"
    if square in stand.wall:
        return "+"
    if square in stand.passed or square[0] == 0 and square[1] <= 0:
        return "*"
    return "|" if square[0] < 0 else "."


def rows(stand, low, high):
    return tuple("".join(sign(stand, (x, y)) for x in range(low[0], high[0] + 1)) for y in range(high[1], low[1] - 1, -1))


class Signs(unittest.TestCase):
    def looks_like(self, stand, low, high):
        told = picture(stand, low, high)
        self.assertEqual(told, rows(stand, low, high))
        self.assertEqual((type(told), {type(row) for row in told}), (tuple, {str}))
        self.assertEqual(picture(high=list(high), low=list(low), stand=stand), told)

    def test_stands_of_games(self):
        source, met = own.seeded(981), set()
        for pace, burns in games.rows(981, 20, 12):
            for stand in flight(burns, pace).stands:
                x, y = stand.square
                low = (x - source.randint(0, 6), y - source.randint(0, 8))
                self.looks_like(stand, low, (low[0] + source.randint(0, 9), low[1] + source.randint(0, 12)))
                self.looks_like(stand, (-3, -3), (6, 12))
                met.update("".join(picture(stand, (-3, -3), (6, 12))))
        self.assertEqual(met, set("@#+*|."))

    def test_stands_made_by_hand(self):
        source = own.seeded(982)
        for _ in range(200):
            self.looks_like(Stand(*own.random_parts(source)), (-2, -4), (5, 9))

    def test_the_rank_of_the_signs(self):
        # The runner's square is burnt, too; burnt ones are in the wall, passed, in the left half.
        stand = Stand(1, 5, (1, 3), (1, 4), (0, 1), [(0, 3), (0, 4)], [(1, 3), (1, 2), (-1, 2), (0, -1), (0, 2)],
                      [(1, 3), (0, 4), (1, 2), (-1, 3), (0, -1), (5, 5)])
        self.assertEqual(picture(stand, (-2, -2), (2, 5)), (
            "||...",
            "||#..",
            "|#+@.",
            "|**#.",
            "||...",
            "||*..",
            "||#..",
            "||*.."))
        self.assertEqual(picture(stand, (5, 5), (5, 5)), ("#",))

    def test_below_the_start(self):
        self.assertEqual(picture(start(), (-1, -3), (1, 1)), ("|..", "|@.", "|*.", "|*.", "|*."))
        stand = Stand(1, 0, (0, 0), (0, 1), (0, 1), [], [(0, 0)], [(0, -2)])
        self.assertEqual(picture(stand, (0, -3), (0, 0)), ("@", "*", "#", "*"))
        self.assertEqual(picture(start(), (0, -10 ** 40), (1, 1 - 10 ** 40)), ("*.", "*."))


class Boxes(unittest.TestCase):
    def test_one_square(self):
        self.assertEqual(picture(start(), (0, 0), (0, 0)), ("@",))
        self.assertEqual(picture(start(), (-7, 4), [-7, 4]), ("|",))

    def test_10000_squares(self):
        for low, high in (((0, 0), (99, 99)), ((-5000, 3), (4999, 3)), ((2, -9999), (2, 0))):
            told = picture(start(), low, high)
            self.assertEqual(sum(map(len, told)), 10000)
            self.assertEqual((len(told), len(told[0])), (high[1] - low[1] + 1, high[0] - low[0] + 1))

    def test_too_many(self):
        for low, high in (((0, 0), (10000, 0)), ((0, 0), (0, 10000)), ((0, 1), (72, 137)), ((0, 0), (10 ** 60, 10 ** 60)),
                          ((-10 ** 59, 0), (0, 0)), ((0, 0), (99, 100))):
            with self.assertRaises(TooMany) as caught:
                picture(start(), low, high)
            self.assertEqual((caught.exception.what, caught.exception.most), ("squares", 10000))
        self.assertEqual(73 * 137, 10001)

    def test_far_away(self):
        far = 10 ** 59
        self.assertEqual(picture(start(), (far, far), (far + 1, far)), ("..",))
        self.assertEqual(picture(start(), (-far, far), (1 - far, far)), ("||",))


class WrongInputs(unittest.TestCase):
    def raises(self, kind, part, *values):
        with self.assertRaises(kind) as caught:
            picture(*values)
        self.assertEqual(caught.exception.part, part, values)

    def test_the_order_of_errors(self):
        for value in (*own.STRANGE, 0, (), own.Sore(), str(start()), own.parts(start()), Stand, flight([])):
            self.raises(BadStand, "stand", value, None, None)
        for value in own.NO_SQUARES:
            self.raises(BadSquare, "low", start(), value, None)
            self.raises(BadSquare, "high", start(), (5, 5), value)
        for low, high in (((0, 0), (-1, 0)), ((0, 0), (0, -1)), ((0, 0), (-1, -1)), ((0, 0), (-1, 10 ** 9)), ((0, 0), (10 ** 9, -1))):
            self.raises(Misfit, "box", start(), low, high)

    def test_nothing_passed_is_changed(self):
        stand, low, high = flight([(0, 3), (0, 5)]).stands[2], [-1, 0], [3, 7]
        kept = copy.deepcopy(stand)
        picture(stand, low, high)
        self.assertEqual((stand, low, high), (kept, [-1, 0], [3, 7]))

    def test_a_short_time(self):
        source = own.seeded(983)
        burns = [(source.randint(0, 60), source.randint(-60, 60)) for _ in range(24)]
        stand = flight(burns).stands[-1]
        began = time.process_time()
        picture(stand, (-9, -9), (90, 90))
        self.assertLess(time.process_time() - began, 1)


if __name__ == "__main__":
    unittest.main()
