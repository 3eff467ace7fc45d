"""Whether a Through or a Shut is right: told ones, others that are right, and bent ones."""

import itertools
import unittest

import own
import strip as other
from own import Sore
from nevercaught.check_strips import shows_passage
from nevercaught.errors import BadBoard, BadNumber
from nevercaught.papers import Denial, Paper
from nevercaught.strips import Shut, Strip, Through, passage

FAR = 10 ** 59


class BelowThrough(Through):
    """A class below Through."""


class BelowShut(Shut):
    """A class below Shut."""


class Right(unittest.TestCase):
    def test_all_short_games(self):
        counts = {True: 0, False: 0}
        for sizes in ((2, 1, 2), (2, 1, 1), (3, 1, 2), (1, 2, 3), (2, 2, 3), (1, 1, 1), (1, 1, 2)):
            strip = Strip(*sizes)
            squares = [(x, y) for x in range(sizes[0]) for y in (0, -1, -2, -3, 1, 2)]
            for many in (1, 2, 3):
                for flights in itertools.product(squares[:6 if many == 3 else None], repeat=many):
                    waiting = list(flights)
                    _, flown, end = other.game(sizes, 0, lambda square, left, shut: (
                        waiting.pop(0) if waiting and waiting[0] in left else None))
                    told = end == "through" and flown == list(flights)
                    counts[told] += 1
                    self.assertIs(shows_passage(strip, 0, Through(flights)), told, (sizes, flights))
        self.assertGreater(min(counts.values()), 20)

    def test_lists_and_names(self):
        pair = Strip(2, 1, 2)
        self.assertIs(shows_passage(value=Through([[0, -1], [1, -2]]), column=0, strip=pair), True)
        self.assertIs(shows_passage(pair, 0, Through([(0, -1), (1, -2)])), True)
        self.assertIs(shows_passage(pair, 1, Through([(0, -1), (1, -2)])), True)
        self.assertIs(shows_passage(pair, 1, Through([(1, -1), (1, -2)])), True)
        self.assertIs(shows_passage(pair, 1, Through([(0, 1), (0, 0), (1, -1), (1, -2)])), False)

    def test_the_turn_that_is_told(self):
        for sizes in ((1, 1, 2), (2, 1, 3), (6, 1, 60), (2, 2, 9), (6, 3, 55), (6, 3, 60)):
            strip, turns = Strip(*sizes), passage(Strip(*sizes), 0).turns
            for column in {0, sizes[0] - 1}:
                for turn in (turns - 1, turns + 1, 0, -turns, FAR, None, str(turns), [turns], (turns,), float(turns), Sore()):
                    self.assertIs(shows_passage(strip, column, Shut(turn)), False)
                self.assertIs(shows_passage(strip, column, Shut(turns)), True)

    def test_a_shut_where_one_comes_through(self):
        for sizes in ((1, 1, 1), (2, 1, 2), (2, 2, 8), (6, 3, 54)):
            wide, power, far = sizes
            turns = 2 * power * wide + wide * (2 * far - 1) - 1
            for turn in (turns, turns - 1, 1, 0):
                self.assertIs(shows_passage(Strip(*sizes), 0, Shut(turn)), False)
        self.assertIs(shows_passage(Strip(1, 1, 1), 0, Shut(True)), False)


class Bent(unittest.TestCase):
    def refuses(self, value, strip=Strip(2, 1, 2), column=0):
        self.assertIs(shows_passage(strip, column, value), False)

    def test_flights(self):
        self.refuses(Through([]))
        self.refuses(Through([(0, -1)]))
        self.refuses(Through([(0, -1), (0, -2)]))
        self.refuses(Through([(0, -1), (1, -2), (1, -3)]))
        self.refuses(Through([(0, -1), (1, -2), (1, -1)]))
        self.refuses(Through([(1, -2)]))
        self.refuses(Through([(0, 0), (1, -1), (1, -2)]))
        self.refuses(Through([(0, -1), (2, -2)]))
        self.refuses(Through([(-1, -1), (0, -2)]))
        for value in (*own.NO_SQUARES, Sore()):
            self.refuses(Through([(0, -1), value]))
            self.refuses(Through([value, (1, -2)]))
        for value in (*own.STRANGE, 0, 5, "ab", Sore(), (0, -1), None):
            self.refuses(Through(value))
        self.refuses(Through([(False, -1), (True, -2)]))
        self.refuses(Through([(0, -1), (1, -FAR)]))

    def test_other_values(self):
        flights = [(0, -1), (1, -2)]
        for value in (*own.STRANGE, 0, 7, [], (), flights, (flights,), Sore(), Through, Shut, Paper("through", flights),
                      Denial("through", flights), BelowThrough(flights)):
            self.refuses(value)
        line = Strip(1, 1, 2)
        for value in (4, [4], (4,), Denial("shut", 4), Paper("shut", 4), BelowShut(4), Through(4), Through([4]), Shut, None, Sore()):
            self.refuses(value, line)
        self.refuses(Shut(flights))

    def test_the_order_of_errors(self):
        for value in (*own.STRANGE, 0, (), (1, 1, 2), Strip):
            with self.assertRaises(BadBoard) as caught:
                shows_passage(value, None, None)
            self.assertEqual(caught.exception.part, "strip")
        for value in (*own.STRANGE, 2, -1, FAR, [], (1,)):
            for paper in (None, Shut(7), Through([])):
                with self.assertRaises(BadNumber) as caught:
                    shows_passage(Strip(2, 1, 2), value, paper)
                self.assertEqual(caught.exception.part, "column")


if __name__ == "__main__":
    unittest.main()
