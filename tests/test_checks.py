"""Integers, squares, lists of squares, neighbours."""

import unittest

from nevercaught.checks import are_squares, around, is_integer, is_square, is_within, squares_of
from nevercaught.errors import BadSquare, BadSquares
from own import NO_LISTS, NO_SQUARES, STRANGE

HUGE = 10 ** 59 + 7


class Checks(unittest.TestCase):
    def test_integers(self):
        for value in (0, 1, -1, HUGE, -HUGE, 10 ** 400):
            self.assertIs(is_integer(value), True)
        for value in (*STRANGE, [], (), (1,), [1], 0.0, 1j):
            self.assertIs(is_integer(value), False)

    def test_bounds(self):
        told = [is_within(value, 2, 4) for value in (1, 2, 3, 4, 5)]
        self.assertEqual(told, [False, True, True, True, False])
        self.assertEqual([is_within(value, None, 0) for value in (-HUGE, 0, 1)], [True, True, False])
        self.assertEqual([is_within(value, 0, None) for value in (HUGE, 0, -1)], [True, True, False])
        self.assertEqual([is_within(value, None, None) for value in (HUGE, 0, -HUGE)], [True, True, True])
        self.assertIs(is_within(3, 4, 2), False)
        self.assertIs(is_within(HUGE, HUGE, HUGE), True)
        for value in STRANGE:
            for bounds in ((None, None), (0, 1), (None, 5), (-5, None)):
                self.assertIs(is_within(value, *bounds), False)

    def test_squares(self):
        for value in ((0, 0), [0, 0], (-5, HUGE), [-HUGE, 3]):
            self.assertIs(is_square(value), True)
        for value in NO_SQUARES:
            self.assertIs(is_square(value), False, value)

    def test_lists_of_squares(self):
        for value in ((), [], [(0, 0)], ([0, 0],), [(0, 1), [1, 0]], ([-3, 4], (-3, 5), (HUGE, 0)), [(5, 5), (1, 1)]):
            self.assertIs(are_squares(value), True)
        for value in NO_LISTS:
            self.assertIs(are_squares(value), False, value)

    def test_squares_of_tells_them_ascending_as_tuples(self):
        passed = [[3, 1], (0, 9), [0, -9], (-2, 5), [HUGE, 0], (-HUGE, 0)]
        told = squares_of(passed)
        self.assertEqual(told, ((-HUGE, 0), (-2, 5), (0, -9), (0, 9), (3, 1), (HUGE, 0)))
        self.assertTrue(all(type(square) is tuple for square in told))
        self.assertEqual(passed, [[3, 1], (0, 9), [0, -9], (-2, 5), [HUGE, 0], (-HUGE, 0)])
        self.assertEqual(squares_of(values=()), ())

    def test_squares_of_refuses_all_else(self):
        for value in NO_LISTS:
            with self.assertRaises(BadSquares) as caught:
                squares_of(value)
            self.assertEqual(caught.exception.part, "values")

    def test_neighbours_in_their_order(self):
        self.assertEqual(around((0, 0)), ((1, 0), (-1, 0), (0, 1), (0, -1)))
        self.assertEqual(around(square=[-4, HUGE]), ((-3, HUGE), (-5, HUGE), (-4, HUGE + 1), (-4, HUGE - 1)))

    def test_neighbours_of_no_square(self):
        for value in NO_SQUARES:
            with self.assertRaises(BadSquare) as caught:
                around(value)
            self.assertEqual(caught.exception.part, "square")


if __name__ == "__main__":
    unittest.main()
