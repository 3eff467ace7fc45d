"""Walls: length, cost, better ones, lots of squares."""

import copy
import unittest

import own
from nevercaught.errors import BadNumber, BadSquares, Misfit
from nevercaught.walls import burnt_in, clipped, cost_of, is_better, length_of, shared, united

FAR = 10 ** 59
NO_LISTS = own.NO_LISTS
LEFT = [(-1, 4)]


class Lengths(unittest.TestCase):
    def test_small_walls(self):
        told = {
            (): 0,
            ((0, 0),): 2,
            ((1, 0),): 4,
            ((0, 1), (0, 2)): 2,
            ((1, 1), (1, 2)): 6,
            ((0, 1), (0, 3)): 4,
            ((0, 1), (1, 2)): 6,
            ((0, 1), (1, 1), (2, 1)): 6,
            ((0, 1), (0, 2), (0, 3), (1, 1), (1, 3)): 6,
            ((1, 1), (1, 2), (1, 3), (2, 1), (2, 3), (3, 1), (3, 2), (3, 3)): 16,
        }
        for wall, length in told.items():
            self.assertEqual(length_of(wall), length, wall)
            self.assertEqual(length_of([list(square) for square in wall[::-1]]), length, wall)

    def test_far_squares(self):
        self.assertEqual(length_of([(FAR, FAR), (FAR + 1, FAR), (0, -FAR), [0, FAR]]), 10)
        self.assertEqual(length_of([(FAR, -FAR), (FAR, 1 - FAR), (FAR, 3 - FAR)]), 10)

    def test_against_pairs(self):
        source = own.seeded(1)
        for _ in range(400):
            wall = own.random_wall(source)
            source.shuffle(wall)
            self.assertEqual(length_of(wall), own.length(wall))

    def test_facts(self):
        source = own.seeded(2)
        for _ in range(300):
            one, other = own.random_wall(source), own.random_wall(source)
            length = length_of(one)
            self.assertEqual(length % 2, 0)
            self.assertGreaterEqual(length, 2 * len({x for x, _ in one}))
            self.assertLessEqual(length_of(united(one, other)) + length_of(shared(one, other)), length + length_of(other))
            self.assertLessEqual(length_of(clipped(one, 2, -9, 9)), length)
            self.assertLessEqual(length_of(clipped(one, 9, -1, 1)), length)
            above = sum(1 for x, y in one if (x, y - 1) not in one)
            aside = sum(1 for x, y in one if x > 0 and (x - 1, y) not in one)
            self.assertEqual(length, 2 * above + 2 * aside)


class Costs(unittest.TestCase):
    def test_burnt_in(self):
        wall = [(0, 1), [1, 1], (1, 2)]
        self.assertEqual(burnt_in(wall, []), 0)
        self.assertEqual(burnt_in([], wall), 0)
        self.assertEqual(burnt_in(wall, [[1, 1], (0, 1), (-1, 1), (5, 5)]), 2)
        self.assertEqual(burnt_in([(FAR, 2)], [[FAR, 2], (FAR, -2)]), 1)

    def test_cost_of(self):
        wall = [(0, 1), [1, 1], (1, 2)]
        self.assertEqual(cost_of(wall, []), 6)
        self.assertEqual(cost_of(wall, [[1, 1], (0, 1), (-1, 1), (0, -3)]), 2)
        self.assertEqual(cost_of((), [(0, 1)]), 0)

    def test_better_is_by_cost_then_burnt_then_squares(self):
        cases = (
            ([], [(3, 3)], [], True),
            ([(3, 3)], [], [], False),
            ([(0, 1)], [], [(0, 1)], True),
            ([], [(0, 1)], [(0, 1)], False),
            ([], [], [], False),
            ([(0, 1)], [[0, 1]], [(0, 1)], False),
            ([(0, 1)], [(0, 1), (0, 2)], [(0, 1)], True),
            ([(0, 1), (0, 2)], [(0, 1)], [(0, 1)], False),
            ([(0, 2)], [(0, 1)], [], False),
            ([(0, 1), (0, 2), (0, 3)], [(0, 1), (0, 3)], [(0, 1), (0, 3)], True),
            ([(7, 7), (7, 8), (8, 7), (8, 8)], [], [(7, 7), (7, 8), (8, 7), (8, 8)], True),
        )
        for one, other, burnt, told in cases:
            self.assertIs(is_better(one, other, burnt), told, (one, other, burnt))

    def test_against_counts(self):
        source = own.seeded(3)
        for _ in range(400):
            one, other, burnt = (own.random_wall(source, 3, 3, 0) for _ in range(3))
            burnt.append((-3, 0))
            self.assertEqual(burnt_in(one, burnt), len(set(one) & set(burnt)))
            self.assertEqual(cost_of(one, burnt), own.rank(one, burnt)[0])
            self.assertIs(is_better(one, other, burnt), own.rank(one, burnt) < own.rank(other, burnt))


class Lots(unittest.TestCase):
    def test_united_and_shared(self):
        self.assertEqual(united([], []), ())
        self.assertEqual(united([[2, 1]], ((0, 5), (2, 1))), ((0, 5), (2, 1)))
        self.assertEqual(shared([[2, 1], (0, 5)], ((0, 5), [2, 1], (3, 3))), ((0, 5), (2, 1)))
        self.assertEqual(shared([(2, 1)], [(1, 2)]), ())
        self.assertEqual(united([(FAR, 0)], [(0, -FAR)]), ((0, -FAR), (FAR, 0)))

    def test_clipped(self):
        wall = [(2, 0), [0, 3], (0, -3), (1, 1), (FAR, 2)]
        self.assertEqual(clipped(wall, 1, -3, 3), ((0, -3), (0, 3), (1, 1)))
        self.assertEqual(clipped(wall, FAR, 0, 2), ((1, 1), (2, 0), (FAR, 2)))
        self.assertEqual(clipped(wall, FAR - 1, 0, 2), ((1, 1), (2, 0)))
        self.assertEqual(clipped(wall, 2, 1, 1), ((1, 1),))
        self.assertEqual(clipped(wall, 2, 2, 1), ())
        self.assertEqual(clipped(wall, -1, -9, 9), ())
        self.assertEqual(clipped([], -FAR, FAR, -FAR), ())

    def test_nothing_passed_is_changed(self):
        one, other, burnt = [[3, 1], (0, 2)], [(0, 2), [0, 1]], [[9, 9], (0, 2)]
        before = copy.deepcopy((one, other, burnt))
        length_of(one), burnt_in(one, burnt), cost_of(one, burnt), is_better(one, other, burnt)
        united(one, other), shared(one, other), clipped(one, 1, 0, 5)
        self.assertEqual((one, other, burnt), before)


class WrongInputs(unittest.TestCase):
    def raises(self, kind, part, call, *values):
        with self.assertRaises(kind) as caught:
            call(*values)
        self.assertEqual(caught.exception.part, part, values)

    def test_no_walls(self):
        for value in NO_LISTS:
            self.raises(BadSquares, "wall", length_of, value)
            self.raises(BadSquares, "wall", burnt_in, value, value)
            self.raises(BadSquares, "wall", cost_of, value, value)
            self.raises(BadSquares, "one", is_better, value, value, value)
            self.raises(BadSquares, "one", united, value, value)
            self.raises(BadSquares, "one", shared, value, value)
            self.raises(BadSquares, "wall", clipped, value, None, None, None)

    def test_later_parameters_come_before_misfits(self):
        for value in NO_LISTS:
            self.raises(BadSquares, "burnt", burnt_in, LEFT, value)
            self.raises(BadSquares, "burnt", cost_of, LEFT, value)
            self.raises(BadSquares, "other", is_better, LEFT, value, value)
            self.raises(BadSquares, "burnt", is_better, LEFT, LEFT, value)
            self.raises(BadSquares, "other", united, LEFT, value)
            self.raises(BadSquares, "other", shared, LEFT, value)

    def test_numbers_in_their_order(self):
        for value in (*own.STRANGE, [], (1,)):
            self.raises(BadNumber, "column", clipped, LEFT, value, value, value)
            self.raises(BadNumber, "low", clipped, LEFT, 0, value, value)
            self.raises(BadNumber, "high", clipped, LEFT, 0, 0, value)

    def test_squares_in_the_left_half(self):
        for left in (LEFT, [(0, 1), [-FAR, 2]]):
            self.raises(Misfit, "wall", length_of, left)
            self.raises(Misfit, "wall", burnt_in, left, left)
            self.raises(Misfit, "wall", cost_of, left, [])
            self.raises(Misfit, "wall", clipped, left, 0, 0, 0)
            self.raises(Misfit, "one", is_better, left, left, [])
            self.raises(Misfit, "other", is_better, [], left, left)
            self.raises(Misfit, "one", united, left, left)
            self.raises(Misfit, "other", united, [], left)
            self.raises(Misfit, "one", shared, left, left)
            self.raises(Misfit, "other", shared, [], left)

    def test_arguments_by_name(self):
        self.assertEqual(length_of(wall=[(0, 1)]), 2)
        self.assertEqual(burnt_in(burnt=[(0, 1)], wall=[(0, 1)]), 1)
        self.assertEqual(cost_of(burnt=[(0, 1)], wall=[(0, 1)]), 0)
        self.assertIs(is_better(burnt=[(0, 1)], other=[], one=[(0, 1)]), True)
        self.assertEqual(united(other=[], one=[(0, 1)]), shared(other=[(0, 1)], one=[(0, 1)]))
        self.assertEqual(clipped(high=5, low=0, column=0, wall=[(0, 1), (1, 1)]), ((0, 1),))


if __name__ == "__main__":
    unittest.main()
