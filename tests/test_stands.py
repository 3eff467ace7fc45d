"""Stands, and how the runner goes on from them."""

import copy
import time
import unittest

import own
from nevercaught.errors import BadBurns, BadNumber, BadStand, Misfit, TooMany
from nevercaught.lines import steps_on
from nevercaught.stands import Stand, flown, start, way_of

FAR = 10 ** 59
UP, RIGHT, DOWN, LEFT = (0, 1), (1, 0), (0, -1), (-1, 0)
NO_HEADINGS = (*own.NO_SQUARES, (0, 0), (1, 1), (0, 2), [0, -2], (-1, -1), (FAR, 0))
NO_STANDS = (*own.STRANGE, 0, 1, [], (), (1, 0, (0, 0), (0, 1), (0, 1), (), ((0, 0),), ()), "1 0 0 0 0 1 0 1 / / 0 0 /", Stand)
NAMES = ("pace", "turn", "square", "corner", "heading", "wall", "passed", "burnt")
PLAIN = (1, 4, (1, 3), (1, 4), UP, [(0, 3), (2, 2)], [(1, 3), (0, 1)], [(0, 3), (-4, 4)])
RING = [(x, y) for x in (2, 3, 4) for y in (2, 3, 4) if (x, y) != (3, 3)]
LEFT_HALF = ([(-1, 2)], [(0, 3), (-FAR, 2)])


def stands(seed, many):
    source = own.seeded(seed)
    return [Stand(*own.random_parts(source)) for _ in range(many)]


class Raising(unittest.TestCase):
    def raises(self, kind, part, call, *values, **named):
        with self.assertRaises(kind) as caught:
            call(*values, **named)
        self.assertIs(type(caught.exception), kind)
        self.assertEqual(caught.exception.part, part, values)


class Parts(Raising):
    def test_attributes(self):
        stand = Stand(2, 7, [1, 3], [1, 4], [0, 1], [[2, 2], (0, 3)], ([1, 3], (0, 1), (-2, 5)), ((0, 3), [-4, 4], (0, 3 - FAR)))
        told = (2, 7, (1, 3), (1, 4), (0, 1), ((0, 3), (2, 2)), ((-2, 5), (0, 1), (1, 3)), ((-4, 4), (0, 3 - FAR), (0, 3)))
        self.assertEqual(own.parts(stand), told)
        for value in (stand.square, stand.corner, stand.heading, *stand.wall, *stand.passed, *stand.burnt):
            self.assertIs(type(value), tuple)
        for lot in (stand.wall, stand.passed, stand.burnt):
            self.assertIs(type(lot), tuple)
        self.assertEqual(Stand(**dict(zip(NAMES[::-1], told[::-1]))), stand)

    def test_lists_and_tuples_alike(self):
        for stand in stands(1, 60):
            lists = [value if type(value) is int else [list(s) if type(s) is tuple else s for s in value] for value in own.parts(stand)]
            self.assertEqual(Stand(*lists), stand)
            self.assertEqual(Stand(*lists[:5], *[lot[::-1] for lot in lists[5:]]), stand)
            self.assertEqual(own.parts(Stand(*lists)), own.parts(stand))

    def test_a_later_change_of_a_list_changes_no_stand(self):
        values = [1, 4, [1, 3], [1, 4], [0, 1], [[0, 3]], [[1, 3]], [[0, 3]]]
        stand = Stand(*values)
        for value in values[2:5]:
            value[0] = 9
        for lot in values[5:]:
            lot[0][0] = 9
            lot.append((8, 8))
        self.assertEqual(own.parts(stand), (1, 4, (1, 3), (1, 4), UP, ((0, 3),), ((1, 3),), ((0, 3),)))

    def test_large_numbers(self):
        stand = Stand(12, FAR, (FAR, -FAR), (FAR, 1 - FAR), UP, [(FAR - 1, -FAR)], [(FAR, -FAR)], [(-FAR, FAR)])
        self.assertEqual((stand.turn, stand.square, stand.wall), (FAR, (FAR, -FAR), ((FAR - 1, -FAR),)))

    def test_equality(self):
        stand = Stand(*PLAIN)
        self.assertIs(stand == Stand(*PLAIN), True)
        self.assertIs(stand != Stand(*PLAIN), False)
        others = ((0, 2), (1, 5), (5, [(0, 3)]), (5, [(0, 3), (2, 3)]), (6, [(1, 3)]), (6, [(1, 3), (0, 0)]), (7, []),
                  (7, [(0, 3), (-4, 5)]))
        for at, value in others:
            other = Stand(*PLAIN[:at], value, *PLAIN[at + 1:])
            self.assertIs(stand == other, False)
            self.assertIs(stand != other, True)
        self.assertNotEqual(stand, Stand(*PLAIN[:2], (0, 1), (0, 2), UP, *PLAIN[5:]))
        for value in (*NO_STANDS, own.parts(stand), str(stand)):
            self.assertIs(stand == value, False)
            self.assertIs(stand != value, True)

    def test_one_square_and_another_step(self):
        round_it = [Stand(1, 1, (3, 3), corner, heading, RING, [(3, 3)], [])
                    for corner, heading in (((3, 4), UP), ((4, 4), RIGHT), ((4, 3), DOWN), ((3, 3), LEFT))]
        for stand in round_it:
            self.assertEqual(round_it.count(stand), 1)
            self.assertEqual((flown(stand, []).square, flown(stand, []).passed), ((3, 3), ((3, 3),)))


class WrongParts(Raising):
    WRONG = (
        (*own.STRANGE, 0, 13, -1, FAR, [], (1,), [1]),
        (*own.STRANGE, -1, -FAR, [], (1,), [1]),
        own.NO_SQUARES,
        own.NO_SQUARES,
        NO_HEADINGS,
        (*own.NO_LISTS, *LEFT_HALF),
        own.NO_LISTS,
        own.NO_LISTS)

    def test_one_part_that_is_wrong(self):
        for at, values in enumerate(self.WRONG):
            for value in values:
                self.raises(BadStand, NAMES[at], Stand, *PLAIN[:at], value, *PLAIN[at + 1:])

    def test_the_first_of_the_parts_that_are_wrong(self):
        for at in range(8):
            for value in self.WRONG[at]:
                self.raises(BadStand, NAMES[at], Stand, *PLAIN[:at], value, *[values[-1] for values in self.WRONG[at + 1:]])
            for other in range(at + 1, 8):
                values = list(PLAIN)
                values[at], values[other] = self.WRONG[at][0], self.WRONG[other][0]
                self.raises(BadStand, NAMES[at], Stand, *values)

    def test_wrong_parts_come_before_what_does_not_fit(self):
        for at in range(2, 8):
            values = [1, 0, (5, 5), (0, 0), UP, [(0, -1)], [], []]
            self.raises(Misfit, "square", Stand, *values)
            values[at] = self.WRONG[at][-1]
            self.raises(BadStand, NAMES[at], Stand, *values)

    def test_misfits_of_the_square(self):
        for square in ((0, 2), (1, 2), (0, 4), (1, 4), (2, 3), (0, 3)):
            self.raises(Misfit, "square", Stand, 1, 4, square, (1, 4), UP, [], [square], [])
        self.raises(Misfit, "square", Stand, 1, 4, (-1, 3), (-1, 4), UP, [], [(-1, 3)], [])
        self.raises(Misfit, "square", Stand, 1, 4, (-1, 3), (0, 3), DOWN, [(0, 3)], [(-1, 3)], [])
        self.raises(Misfit, "square", Stand, 1, 4, (1, 3), (1, 4), RIGHT, [], [(1, 3)], [])

    def test_misfits_of_what_is_passed(self):
        for passed in ([], [(0, 3)], [(1, 2), (1, 4)]):
            self.raises(Misfit, "passed", Stand, 1, 4, (1, 3), (1, 4), UP, [(0, 3)], passed, [])
        self.raises(Misfit, "passed", Stand, 1, 0, (0, 0), (0, 1), UP, [], [], [])
        self.raises(Misfit, "passed", Stand, 1, 0, (0, -5), (0, -4), UP, [], [(0, 0)], [])

    def test_misfits_of_the_wall(self):
        for wall in ([(0, 3), (1, 3)], [(0, 3), (2, 2)], [(0, 3), (0, 0)], [(0, 3), (0, -FAR)], [], [(1, 4)]):
            self.raises(Misfit, "wall", Stand, 1, 4, (1, 3), (1, 4), UP, wall, [(1, 3), (2, 2)], [])
        self.raises(Misfit, "wall", Stand, 1, 4, (0, 3), (1, 4), RIGHT, [], [(0, 3)], [])
        Stand(1, 4, (0, 3), (1, 4), RIGHT, [(0, 4)], [(0, 3)], [])
        Stand(1, 4, (0, 3), (0, 4), UP, [], [(0, 3)], [])
        Stand(1, 4, (1, 3), (1, 4), UP, [(0, 3), (0, 1)], [(1, 3), (2, 2)], [])

    def test_the_order_of_misfits(self):
        self.raises(Misfit, "square", Stand, 1, 4, (1, 2), (1, 4), UP, [(0, 0)], [], [])
        self.raises(Misfit, "passed", Stand, 1, 4, (1, 3), (1, 4), UP, [(0, 0)], [], [])
        self.raises(Misfit, "wall", Stand, 1, 4, (1, 3), (1, 4), UP, [(0, 0)], [(1, 3)], [])


class OneTurn(unittest.TestCase):
    def test_start(self):
        for pace in (1, 2, 12):
            self.assertEqual(own.parts(start(pace)), (pace, 0, (0, 0), (0, 1), UP, (), ((0, 0),), ()))
        self.assertEqual(start(), start(pace=1))

    def test_against_a_trial_of_all_walls(self):
        source = own.seeded(2)
        count = 0
        while count < 120:
            stand = Stand(*own.random_parts(source))
            burns = [source.choice((None, stand.square, (source.randint(-1, 3), source.randint(-1, 5)))) for _ in range(stand.pace)]
            burns = burns[:source.randint(0, min(stand.pace, 4))]
            burnt = {*stand.burnt, *[burn for burn in burns if burn not in (None, stand.square)]}
            board = own.Lists(stand.wall, stand.passed, tuple(sorted(burnt)))
            if len(own.free_squares(board)) > 9:
                continue
            count += 1
            wall = own.trial(board)[0]
            steps = own.walk(wall, stand.corner, stand.heading, 2 * stand.pace)
            later = flown(stand, burns)
            passed = tuple(sorted({*stand.passed, *[step[2] for step in steps]}))
            told = (stand.pace, stand.turn + 1, steps[-1][2], steps[-1][0], steps[-1][1], wall, passed, board.burnt)
            self.assertEqual(own.parts(later), told)
            if burnt == set(stand.burnt):
                self.assertEqual(way_of(stand), tuple(steps))
            self.assertEqual(flown(stand, [burn and list(burn) for burn in burns[::-1]] + [None] * (stand.pace - len(burns))), later)

    def test_way_of_is_the_way_without_burns(self):
        for stand in stands(3, 60):
            later = flown(stand, [])
            steps = way_of(stand)
            self.assertEqual(len(steps), 2 * stand.pace)
            self.assertEqual(steps, steps_on(later.wall, stand.corner, stand.heading, 2 * stand.pace))
            self.assertEqual((steps[-1][2], steps[-1][0], steps[-1][1]), (later.square, later.corner, later.heading))
            self.assertEqual(set(later.passed), {*stand.passed, *[step[2] for step in steps]})

    def test_burns_that_do_nothing(self):
        stand = flown(flown(start(2), [(0, 5), (0, 2)]), [(1, 1)])
        bare = flown(stand, [])
        for burns in ([None], [None, None], (stand.square,), [stand.square, None], [(0, 5)], [[0, 5], (0, 5)], [(1, 1), stand.square]):
            self.assertEqual(flown(stand, burns), bare)
        self.assertEqual(flown(start(), [(0, 0)]).burnt, ())

    def test_burns_of_all_places(self):
        stand = flown(flown(start(), [(0, 3)]), [])
        self.assertEqual((stand.square, stand.wall, stand.passed), ((1, 3), ((0, 3),), ((0, 0), (0, 1), (0, 2), (1, 3))))
        for burn in ((-1, 4), (-5, 60), (0, 2), (0, 0), (0, -7)):
            later = flown(stand, [burn])
            self.assertEqual((later.burnt, later.wall), (tuple(sorted([burn, (0, 3)])), stand.wall))
        held = Stand(1, 3, (0, 4), (0, 5), UP, [(0, 3), (1, 5)], [(0, 4)], [])
        self.assertEqual(flown(held, [(1, 5)]).burnt, ((1, 5),))
        self.assertEqual(flown(held, [(1, 5)]).wall, ((0, 3), (1, 5)))
        self.assertEqual(flown(stand, [(0, 5)]).wall, ((0, 3), (0, 4), (0, 5)))

    def test_a_square_that_is_burnt_while_it_stands_beside(self):
        self.assertEqual(flown(start(), [(0, 2)]).wall, ((0, 2),))
        self.assertEqual(flown(start(), [(0, 2)]).square, (0, 1))
        self.assertEqual(flown(start(), [(1, 2)]).wall, ())
        self.assertEqual(flown(start(2), [(0, 1), (1, 2)]).wall, ((0, 1), (0, 2), (1, 2)))
        self.assertEqual(flown(start(2), [(0, 1), (2, 2)]).wall, ((0, 1),))

    def test_paces(self):
        for pace in (1, 2, 3, 12):
            stand = flown(start(pace), [])
            self.assertEqual((stand.square, stand.corner, len(stand.passed)), ((0, 2 * pace), (0, 2 * pace + 1), 2 * pace + 1))
        rows = [(0, y) for y in range(13, 25)]
        self.assertEqual(flown(start(12), rows).square, (1, 23))
        self.assertEqual(flown(start(12), rows[:11]).wall, tuple(rows[:11]))

    def test_a_runner_that_stays_on_its_square(self):
        hook = Stand(1, 7, (0, 2), (0, 3), UP, [(0, 3), (1, 3), (1, 2)], [(0, 2), (0, 1)], [(1, 2), (1, 3), (0, 3)])
        later = flown(hook, [(0, 2)])
        self.assertEqual((later.square, later.corner, later.passed, later.turn), ((0, 2), (1, 2), hook.passed, 8))
        self.assertEqual(flown(later, [(0, 1)]).square, (2, 2))
        self.assertEqual(way_of(later), (((2, 2), RIGHT, (1, 1)), ((2, 3), UP, (2, 2))))

    def test_islands_and_holes(self):
        island = Stand(2, 5, (4, 3), (4, 4), UP, [(3, 3)], [(4, 3)], [(3, 3)])
        self.assertEqual((flown(island, []).square, flown(island, []).corner), ((4, 3), (4, 4)))
        inside = Stand(1, 5, (3, 3), (3, 4), UP, RING, [(3, 3)], [])
        self.assertEqual((flown(inside, [(9, 9)]).square, flown(inside, []).heading), ((3, 3), DOWN))
        free = Stand(1, 5, (1, 1), (1, 2), UP, [(0, 1), *RING], [(1, 1)], [])
        self.assertIn((3, 3), flown(free, []).wall)

    def test_arguments_by_name(self):
        self.assertEqual(flown(burns=[(0, 1)], stand=start()), flown(start(), [(0, 1)]))
        self.assertEqual(way_of(stand=start(2)), way_of(start(2)))

    def test_nothing_passed_is_changed(self):
        for stand in stands(4, 40):
            kept, burns = copy.deepcopy(stand), [[0, 4]]
            flown(stand, burns), way_of(stand), str(stand)
            self.assertEqual((own.parts(stand), burns), (own.parts(kept), [[0, 4]]))

    def test_a_short_time(self):
        source = own.seeded(5)
        squares = [(x, y) for x in range(61) for y in range(-60, 61) if x > 0 or y > 1]
        for _ in range(3):
            some = source.sample([s for s in squares if s != (0, 4)], 600)
            stand = Stand(1, 3, (0, 4), (0, 5), UP, some[:200], [(0, 4), *some[200:399]], some[400:])
            begun = time.process_time()
            later = flown(stand, [(60, 60)])
            self.assertEqual((way_of(later), Stand.read(str(stand))), (way_of(later), stand))
            self.assertLess(time.process_time() - begun, 6)


class WrongTurns(Raising):
    def test_start(self):
        for value in (*own.STRANGE, 0, 13, -1, FAR, [], (1,)):
            self.raises(BadNumber, "pace", start, value)

    def test_stands(self):
        for value in NO_STANDS:
            for burns in ([], 5, [None] * 20):
                self.raises(BadStand, "stand", flown, value, burns)
            self.raises(BadStand, "stand", way_of, value)

    def test_burns(self):
        for pace in (1, 2):
            for value in own.NO_BURNS:
                self.raises(BadBurns, "burns", flown, start(pace), value)
        self.raises(BadBurns, "burns", flown, start(), [None, None, 5])

    def test_too_many_burns(self):
        for pace in (1, 2, 12):
            for burns in ([None] * (pace + 1), [(0, 0)] * (pace + 1), [(1, y) for y in range(40)]):
                with self.assertRaises(TooMany) as caught:
                    flown(start(pace), burns)
                self.assertEqual((caught.exception.what, caught.exception.most), ("burns", pace))
            flown(start(pace), [(0, 0)] * pace)


if __name__ == "__main__":
    unittest.main()
