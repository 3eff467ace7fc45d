"""Parts, rooted parts, holes."""

import copy
import unittest

import own
from nevercaught.errors import BadSquares, Misfit
from nevercaught.parts import filled, holes_of, parts_of, rooted
from nevercaught.walls import length_of

FAR = 10 ** 59
ALL = (parts_of, rooted, holes_of, filled)


def lots(squares, near):
    """The lots in which one comes from each to each, ascending."""
    left, found = set(squares), []
    while left:
        lot, ahead = set(), [left.pop()]
        while ahead:
            square = ahead.pop()
            lot.add(square)
            for other in near(square):
                if other in left:
                    left.remove(other)
                    ahead.append(other)
        found.append(tuple(sorted(lot)))
    return tuple(sorted(found))


def holes(wall):
    """The holes, by all squares outside in a box two squares wider than the wall."""
    column = max([x for x, _ in wall], default=0) + 2
    rows = [y for _, y in wall] or [0]
    outside = [(x, y) for x in range(column + 1) for y in range(min(rows) - 2, max(rows) + 3) if (x, y) not in wall]
    return tuple(lot for lot in lots(outside, own.touched) if (column, max(rows) + 2) not in lot)


def ring(x, y, wide, tall):
    """The squares round a box."""
    return [(x + a, y + b) for a in range(wide) for b in range(tall) if a in (0, wide - 1) or b in (0, tall - 1)]


class Parts(unittest.TestCase):
    def test_small(self):
        self.assertEqual((parts_of([]), rooted([]), holes_of([]), filled([])), ((), (), (), ()))
        self.assertEqual(parts_of([[3, 3]]), (((3, 3),),))
        self.assertEqual(parts_of([(0, 2), (1, 3)]), (((0, 2),), ((1, 3),)))
        self.assertEqual(parts_of([(2, 2), (1, 2), [0, 5], (2, 3)]), (((0, 5),), ((1, 2), (2, 2), (2, 3))))
        self.assertEqual(rooted([(2, 2), (1, 2), [0, 5], (2, 3)]), ((0, 5),))
        self.assertEqual(rooted([(1, 2), (0, 1)]), ((0, 1),))

    def test_the_order_of_parts(self):
        wall = [(4, 0), (0, 9), (3, 7), (1, 5), (1, 6), (0, -5), (FAR, 1)]
        told = (((0, -5),), ((0, 9),), ((1, 5), (1, 6)), ((3, 7),), ((4, 0),), ((FAR, 1),))
        self.assertEqual(parts_of(wall), told)
        self.assertEqual(rooted(wall), ((0, -5), (0, 9)))

    def test_two_parts_of_one_column_are_not_one_by_the_left_half(self):
        self.assertEqual(len(parts_of([(0, 1), (0, 3)])), 2)

    def test_against_floods(self):
        source = own.seeded(5)
        for _ in range(300):
            wall = own.random_wall(source, 5, 6, -3)
            source.shuffle(wall)
            parts = lots(wall, own.around)
            self.assertEqual(parts_of(wall), parts)
            self.assertEqual(rooted(wall), tuple(sorted(s for part in parts if part[0][0] == 0 for s in part)))


class Holes(unittest.TestCase):
    def test_small(self):
        self.assertEqual(holes_of(ring(0, 0, 3, 3)), (((1, 1),),))
        self.assertEqual(holes_of(ring(5, 5, 4, 3)), (((6, 6), (7, 6)),))
        self.assertEqual(filled(ring(5, 5, 3, 3)), tuple(sorted(ring(5, 5, 3, 3) + [(6, 6)])))

    def test_the_left_half_closes_a_hole(self):
        bow = [(0, 1), (1, 1), (1, 2), (1, 3), (0, 3)]
        self.assertEqual(holes_of(bow), (((0, 2),),))
        self.assertEqual(holes_of(bow[:-1]), ())
        self.assertEqual(holes_of([(x + 1, y) for x, y in bow]), ())

    def test_a_corner_opens_a_hole(self):
        self.assertEqual(holes_of([(1, 0), (0, 1), (1, 2), (2, 1)]), ())
        self.assertEqual(holes_of([s for s in ring(3, 3, 3, 3) if s != (3, 3)]), ())

    def test_squares_of_a_hole_that_touch_at_a_corner_are_one_hole(self):
        block = [(x, y) for x in range(3, 7) for y in range(3, 7) if (x, y) not in ((4, 4), (5, 5))]
        self.assertEqual(holes_of(block), (((4, 4), (5, 5)),))
        self.assertEqual(length_of(filled(block)), 16)

    def test_holes_within_holes(self):
        outer, inner = ring(1, -5, 9, 9), ring(4, -2, 3, 3)
        told = holes_of(outer + inner)
        self.assertEqual(len(told), 2)
        self.assertEqual(told[1], ((5, -1),))
        self.assertEqual(len(told[0]), 49 - 9)
        self.assertEqual(filled(outer + inner), tuple((x, y) for x in range(1, 10) for y in range(-5, 4)))
        bow = [(0, 0), (1, 0), (2, 0), (3, 0), (4, 0), (4, 1), (4, 2), (4, 3), (4, 4), (3, 4), (2, 4), (1, 4), (0, 4)]
        self.assertEqual(holes_of(bow + [(2, 2)]), (tuple((x, y) for x in range(4) for y in (1, 2, 3) if (x, y) != (2, 2)),))
        self.assertEqual(holes_of(bow + ring(1, 1, 3, 3))[1], ((2, 2),))

    def test_a_part_in_a_hole_may_lean_on_nothing(self):
        wall = ring(0, 0, 5, 5) + [(2, 2)]
        self.assertEqual(len(parts_of(wall)), 2)
        self.assertEqual(len(holes_of(wall)), 1)
        self.assertEqual(len(holes_of(wall)[0]), 8)

    def test_far_holes(self):
        wall = ring(FAR, -FAR, 3, 3) + ring(0, FAR, 3, 3)
        self.assertEqual(holes_of(wall), (((1, FAR + 1),), ((FAR + 1, 1 - FAR),)))

    def test_against_floods_and_facts(self):
        source = own.seeded(6)
        for _ in range(300):
            wall = own.random_wall(source, 6, 7, -3, source.choice((0.5, 0.6, 0.7, 0.8)))
            source.shuffle(wall)
            told = holes(wall)
            self.assertEqual(holes_of(wall), told)
            whole = filled(wall)
            self.assertEqual(whole, tuple(sorted([*wall, *[s for hole in told for s in hole]])))
            self.assertEqual(holes_of(whole), ())
            edges = sum(1 for hole in told for s in hole for o in own.around(s) if o[0] < 0 or o in wall)
            self.assertEqual(length_of(whole), length_of(wall) - edges)
            self.assertEqual(sum(length_of(part) for part in parts_of(wall)), length_of(wall))

    def test_a_wall_of_two_hundred_squares(self):
        wall = ring(0, -25, 51, 51)[:200]
        self.assertEqual(holes_of(wall), holes(wall))
        spiral = [(x, 0) for x in range(0, 60)] + [(59, y) for y in range(1, 60)] + [(x, 59) for x in range(20, 59)]
        spiral += [(20, y) for y in range(30, 59)]
        self.assertEqual(holes_of(spiral), ())


class WrongInputs(unittest.TestCase):
    def test_no_walls(self):
        for call in ALL:
            for value in own.NO_LISTS:
                with self.assertRaises(BadSquares) as caught:
                    call(value)
                self.assertEqual(caught.exception.part, "wall")
            with self.assertRaises(Misfit) as caught:
                call(wall=[(3, 3), (-1, 0)])
            self.assertEqual(caught.exception.part, "wall")

    def test_nothing_passed_is_changed(self):
        wall = [[2, 2], (0, 1), [0, 0]]
        kept = copy.deepcopy(wall)
        for call in ALL:
            call(wall)
            self.assertEqual(call(wall), call(tuple(wall)))
        self.assertEqual(wall, kept)


if __name__ == "__main__":
    unittest.main()
