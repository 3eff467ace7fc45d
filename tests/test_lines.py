"""Steps, and the line of a wall."""

import copy
import unittest

import own
from own import following, next_of, sides
from nevercaught.errors import BadNumber, BadSquare, BadSquares, Misfit
from nevercaught.lines import beside, next_step, step_back, steps_on, whole_line
from nevercaught.parts import filled, rooted
from nevercaught.walls import length_of

FAR = 10 ** 59
UP, RIGHT, DOWN, LEFT = (0, 1), (1, 0), (0, -1), (-1, 0)
NO_HEADINGS = (*own.NO_SQUARES, (0, 0), (1, 1), (0, 2), [0, -2], (-1, -1), (FAR, 0))
HOOK = [(1, 3), (0, 2), [1, 2]]


class Steps(unittest.TestCase):
    def test_beside(self):
        self.assertEqual(beside((4, 7), UP), ((3, 6), (4, 6)))
        self.assertEqual(beside((4, 7), [1, 0]), ((3, 7), (3, 6)))
        self.assertEqual(beside([4, 7], DOWN), ((4, 7), (3, 7)))
        self.assertEqual(beside(heading=LEFT, corner=(4, 7)), ((4, 6), (4, 7)))
        self.assertEqual(beside((-FAR, FAR), UP), ((-FAR - 1, FAR - 1), (-FAR, FAR - 1)))
        for heading in (UP, RIGHT, DOWN, LEFT):
            self.assertEqual(beside((-3, 5), heading), sides((-3, 5), heading))

    def test_straight_up_the_left_half(self):
        for wall in ([], [(5, 5)], [(0, FAR)]):
            self.assertEqual(next_step(wall, (0, 1), UP), ((0, 2), UP, (0, 1)))
            self.assertEqual(step_back(wall, (0, 1), UP), ((0, 0), UP, (0, -1)))

    def test_turns(self):
        self.assertEqual(next_step([(0, 1)], (0, 1), UP), ((1, 1), RIGHT, (0, 0)))
        self.assertEqual(next_step([(0, 1)], (1, 1), [1, 0]), ((1, 2), UP, (1, 1)))
        self.assertEqual(next_step([(0, 1)], [1, 2], UP), ((0, 2), LEFT, (0, 2)))
        self.assertEqual(next_step([(0, 1)], (0, 2), LEFT), ((0, 3), UP, (0, 2)))
        self.assertEqual(step_back([(0, 1)], (0, 3), UP), ((0, 2), LEFT, (0, 2)))

    def test_the_line_stays_with_what_it_followed(self):
        aslant = [(0, 1), (1, 2)]
        self.assertEqual(next_step(aslant, (1, 2), UP), ((0, 2), LEFT, (0, 2)))
        self.assertEqual(next_step(aslant, (1, 2), DOWN), ((2, 2), RIGHT, (1, 1)))
        self.assertEqual(step_back(aslant, (0, 2), LEFT), ((1, 2), UP, (1, 1)))
        self.assertEqual(step_back(aslant, (2, 2), RIGHT), ((1, 2), DOWN, (0, 2)))

    def test_round_parts_that_are_not_rooted_and_holes(self):
        self.assertEqual([step[0] for step in steps_on([(3, 3)], (4, 3), RIGHT, 4)], [(4, 4), (3, 4), (3, 3), (4, 3)])
        ring = [(x, y) for x in (2, 3, 4) for y in (2, 3, 4) if (x, y) != (3, 3)]
        self.assertEqual([step[0] for step in steps_on(ring, (3, 4), UP, 4)], [(4, 4), (4, 3), (3, 3), (3, 4)])
        self.assertEqual({step[2] for step in steps_on(ring, (3, 4), UP, 40)}, {(3, 3)})

    def test_far_walls(self):
        wall = [(FAR, -FAR)]
        self.assertEqual(next_step(wall, (FAR + 1, -FAR), RIGHT), ((FAR + 1, 1 - FAR), UP, (FAR + 1, -FAR)))
        self.assertEqual(steps_on([], (0, -FAR), UP, 2)[1][0], (0, 2 - FAR))

    def test_so_many(self):
        self.assertEqual(steps_on(HOOK, (0, 1), UP, 0), ())
        self.assertEqual(steps_on(HOOK, (0, 1), UP, 1), (next_step(HOOK, (0, 1), UP),))
        many = steps_on(HOOK, [0, 1], [0, 1], 400)
        self.assertEqual((len(many), many[-1][1]), (400, UP))
        for one, other in zip(many, many[1:]):
            self.assertEqual(next_step(HOOK, one[0], one[1]), other)
            self.assertEqual(step_back(HOOK, other[0], other[1]), one)

    def test_each_step_that_follows(self):
        source = own.seeded(7)
        for _ in range(150):
            wall = own.random_wall(source, 4, 5, -2)
            steps = following(wall)
            after = [next_step(wall, corner, heading) for corner, heading, _ in steps]
            self.assertEqual(after, [next_of(wall, step) for step in steps])
            self.assertEqual(len(set(after)), len(steps))
            for one, other in zip(steps, after):
                self.assertEqual(step_back(wall, other[0], other[1]), one)

    def test_each_step_that_does_not(self):
        wall = [(0, 1), (1, 2), (1, 3), (3, 2)]
        steps = {(corner, heading) for corner, heading, _ in following(wall)}
        for x in range(-2, 6):
            for y in range(0, 5):
                for heading in (UP, RIGHT, DOWN, LEFT):
                    if ((x, y), heading) in steps:
                        continue
                    for call in (next_step, step_back):
                        with self.assertRaises(Misfit) as caught:
                            call(wall, (x, y), heading)
                        self.assertEqual(caught.exception.part, "step")
                    with self.assertRaises(Misfit):
                        steps_on(wall, (x, y), heading, 0)


class Lines(unittest.TestCase):
    def test_small(self):
        self.assertEqual(whole_line([]), (((0, 1), UP, (0, 0)),))
        self.assertEqual(whole_line([(5, 5)]), tuple(((0, y), UP, (0, y - 1)) for y in range(1, 7)))
        self.assertEqual(whole_line([(3, -2)]), tuple(((0, y), UP, (0, y - 1)) for y in (-1, 0, 1)))
        told = (((1, 0), RIGHT, (0, -1)), ((1, 1), UP, (1, 0)), ((0, 1), LEFT, (0, 1)))
        self.assertEqual(whole_line(wall=[[0, 0]]), told)
        self.assertEqual(whole_line([(0, -3)])[:3], (((1, -3), RIGHT, (0, -4)), ((1, -2), UP, (1, -3)), ((0, -2), LEFT, (0, -2))))

    def test_against_next_steps_and_facts(self):
        source = own.seeded(8)
        for _ in range(200):
            wall = own.random_wall(source, 5, 6, source.choice((-8, -3, 0, 2)))
            source.shuffle(wall)
            rows = [0, *[y for _, y in wall]]
            low, high = min(rows), max(rows) + 1
            step, told = ((0, low), UP, (0, low - 1)), []
            while step[0] != (0, high):
                step = next_of(wall, step)
                told.append(step)
            line = whole_line(wall)
            self.assertEqual(line, tuple(told))
            self.assertEqual(len(set(line)), len(line))
            self.assertEqual(len(line), high - low + length_of(filled(rooted(wall))))


class WrongInputs(unittest.TestCase):
    def raises(self, kind, part, call, *values):
        with self.assertRaises(kind) as caught:
            call(*values)
        self.assertEqual(caught.exception.part, part, values)

    def test_beside(self):
        for value in own.NO_SQUARES:
            self.raises(BadSquare, "corner", beside, value, value)
        for value in NO_HEADINGS:
            self.raises(BadSquare, "heading", beside, (0, 0), value)

    def test_the_order_of_errors(self):
        left = [(-1, 0)]
        for value in own.NO_LISTS:
            self.raises(BadSquares, "wall", next_step, value, value, value)
            self.raises(BadSquares, "wall", step_back, value, value, value)
            self.raises(BadSquares, "wall", steps_on, value, value, value, value)
            self.raises(BadSquares, "wall", whole_line, value)
        for value in own.NO_SQUARES:
            self.raises(BadSquare, "corner", next_step, left, value, value)
            self.raises(BadSquare, "corner", step_back, left, value, value)
            self.raises(BadSquare, "corner", steps_on, left, value, value, value)
        for value in NO_HEADINGS:
            self.raises(BadSquare, "heading", next_step, left, (5, 5), value)
            self.raises(BadSquare, "heading", step_back, left, (5, 5), value)
            self.raises(BadSquare, "heading", steps_on, left, (5, 5), value, value)
        for value in (*own.STRANGE, -1, 401, FAR, [], (1,)):
            self.raises(BadNumber, "many", steps_on, left, (5, 5), UP, value)
        self.raises(Misfit, "wall", next_step, left, (5, 5), UP)
        self.raises(Misfit, "wall", step_back, left, (5, 5), UP)
        self.raises(Misfit, "wall", steps_on, left, (5, 5), UP, 3)
        self.raises(Misfit, "wall", whole_line, left)
        self.raises(Misfit, "step", steps_on, [], (5, 5), UP, 3)

    def test_nothing_passed_is_changed(self):
        wall, corner, heading = [[0, 1], (1, 1)], [0, 1], [0, 1]
        kept = copy.deepcopy((wall, corner, heading))
        next_step(wall, corner, heading), step_back(wall, corner, heading), steps_on(wall, corner, heading, 9)
        whole_line(wall), beside(corner, heading)
        self.assertEqual((wall, corner, heading), kept)
        for step in (*steps_on(wall, corner, heading, 9), *whole_line(wall), step_back(wall, corner, heading)):
            self.assertTrue(type(step) is tuple and all(type(pair) is tuple for pair in step))

    def test_arguments_by_name(self):
        self.assertEqual(next_step(heading=UP, corner=(0, 1), wall=[]), ((0, 2), UP, (0, 1)))
        self.assertEqual(step_back(heading=UP, corner=(0, 1), wall=[]), ((0, 0), UP, (0, -1)))
        self.assertEqual(steps_on(many=0, heading=UP, corner=(0, 1), wall=[]), ())


if __name__ == "__main__":
    unittest.main()
