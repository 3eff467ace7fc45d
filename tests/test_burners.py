"""Burners, and matches against them."""

import copy
import time
import unittest

import games
import own
from nevercaught.burners import Ahead, Asked, Block, Burner, Looker, Ring, Told, match
from nevercaught.errors import BadBurns, BadNumber, BadSquare, BadSquares, BadStand, FlightError, TooMany
from nevercaught.flights import Flight, flight
from nevercaught.stands import Stand, flown, start

FAR = 10 ** 59
TRIES = [(0, 2), (0, 1), (1, 2), (0, 0), (-1, 3), (0, 3), (2, 2), (0, -1)]
BURNERS = (Told([(0, 5), None, (1, 4), [0, 9], (0, 9), (2, 8)]), Ahead(1), Ahead(2), Ahead(7), Ring((1, 8), 2), Ring((0, 3), 1),
           Block((0, 4), 3), Block((-2, 6), 4), Looker(TRIES, 1), Looker([(0, 2), (1, 1)], 0), Asked(lambda stand: [stand.corner]))


class Below(Told):
    """A class below one of the burners."""


class Wish(FlightError):
    """What a function that is asked may raise."""


def some_stands(seed, many):
    """Stands of games, and others."""
    source = own.seeded(seed)
    found = [Stand(*own.random_parts(source)) for _ in range(many)]
    for pace, burns in games.rows(seed, 10):
        found += flight(burns, pace).stands[::2]
    return found


def row(stand, squares):
    """The first squares that are neither burnt nor the runner's, as many as the pace, or None."""
    left = [s for s in sorted(squares) if s not in stand.burnt and s != stand.square]
    return tuple((left + [None] * 12)[:stand.pace])


class Rows(unittest.TestCase):
    def test_told(self):
        squares = [(0, k) if k % 3 else None for k in range(40)]
        for pace in (1, 2, 3, 12):
            for turn in (0, 1, 2, 3, 13, 19, 20, 39, 40, 41, FAR):
                stand = Stand(pace, turn, (0, 0), (0, 1), (0, 1), [], [(0, 0)], [])
                told = [squares[at] if at < 40 else None for at in range(turn * pace, turn * pace + pace)]
                self.assertEqual(Told(squares).burns(stand), tuple(told))
        self.assertEqual(Told([]).burns(start(3)), (None,) * 3)
        self.assertEqual(Told([(0, 5)] * 3).burns(start(2)), ((0, 5), (0, 5)))
        self.assertEqual(Told([[0, 0]]).burns(start()), ((0, 0),))

    def test_ahead(self):
        for stand in some_stands(90, 60):
            for steps in (1, 2, 3, 2 * stand.pace, 17, 60):
                line = own.walk(stand.wall, stand.corner, stand.heading, steps + stand.pace)
                self.assertEqual(Ahead(steps).burns(stand), tuple(step[2] for step in line[steps - 1:steps - 1 + stand.pace]))

    def test_ahead_along_the_wall_as_it_is(self):
        stand = Stand(1, 3, (0, 2), (0, 3), (0, 1), [], [(0, 2)], [(0, 3), (0, 4), (0, 5)])
        self.assertEqual(Ahead(2).burns(stand), ((0, 4),))
        self.assertEqual(flown(stand, []).square, (1, 3))

    def test_ring(self):
        for stand in some_stands(91, 50):
            for middle in ((0, 3), (1, 2), stand.square, (-3, -3), [2, 5]):
                for size in (1, 2, 5):
                    x, y = middle
                    squares = [(a, b) for a in range(x - 25, x + 26) for b in range(y - 25, y + 26) if max(abs(a - x), abs(b - y)) == size]
                    self.assertEqual(Ring(middle, size).burns(stand), row(stand, squares))
        stand = start(12)
        self.assertEqual(len(set(Ring((0, 30), 20).burns(stand))), 12)
        self.assertEqual(Ring((FAR, -FAR), 20).burns(stand)[0], (FAR - 20, -FAR - 20))

    def test_ring_with_too_few_squares_left(self):
        burnt = [s for s in own.touched((0, 5)) if s not in ((1, 5), (0, 6))]
        stand = Stand(3, 3, (0, 2), (0, 3), (0, 1), [], [(0, 2)], burnt)
        self.assertEqual(Ring((0, 5), 1).burns(stand), ((0, 6), (1, 5), None))
        stand = Stand(3, 3, (0, 6), (0, 7), (0, 1), [], [(0, 6)], burnt)
        self.assertEqual(Ring((0, 5), 1).burns(stand), ((1, 5), None, None))
        self.assertEqual(Ring((0, 5), 1).burns(Stand(2, 3, (0, 2), (0, 3), (0, 1), [], [(0, 2)], own.touched((0, 5)))), (None, None))

    def test_block(self):
        for stand in some_stands(92, 50):
            for corner in ((0, 3), (-1, 2), stand.square, [2, 1]):
                for wide in (1, 2, 3, 8):
                    squares = [(corner[0] + k, corner[1] + m) for k in range(wide) for m in range(wide)]
                    self.assertEqual(Block(corner, wide).burns(stand), row(stand, squares))

    def test_block_with_too_few_squares_left(self):
        stand = Stand(3, 3, (0, 2), (0, 3), (0, 1), [], [(0, 2)], [(0, 3), (1, 3)])
        self.assertEqual(Block((0, 2), 2).burns(stand), ((1, 2), None, None))
        self.assertEqual(Block((0, 2), 1).burns(stand), (None, None, None))
        self.assertEqual(Block((0, 3), 1).burns(stand), (None, None, None))

    def test_looker(self):
        source = own.seeded(93)
        ties = 0
        for stand in some_stands(93, 60):
            tries = source.sample([(x, y) for x in range(-2, 4) for y in range(-2, 6)], source.randint(1, 8))
            for deep in (0, 1, 2):
                left = []
                for x, y in tries:
                    later = flown(stand, [(stand.square[0] + x, stand.square[1] + y)])
                    for _ in range(deep):
                        later = flown(later, [])
                    left.append(later.square[1] - later.square[0])
                ties += left.count(min(left)) > 1
                x, y = tries[left.index(min(left))]
                burn = (stand.square[0] + x, stand.square[1] + y)
                self.assertEqual(Looker(tries, deep).burns(stand), (burn,) + (None,) * (stand.pace - 1))
        self.assertGreater(ties, 20)

    def test_looker_with_its_own_square_and_burnt_ones(self):
        self.assertEqual(Looker([(0, 0)], 0).burns(start(2)), ((0, 0), None))
        self.assertEqual(Looker([(0, 0), (0, 1)], 0).burns(start()), ((0, 1),))
        stand = flown(start(), [(0, 1)])
        self.assertEqual(Looker([(-1, 0), (0, 0), (40, 0)], 0).burns(stand), ((0, 1),))
        self.assertEqual(Looker([(40, 0), (-1, 0), (0, 0)], 2).burns(stand), ((41, 1),))

    def test_asked(self):
        kept = []

        def ask(stand):
            kept.append(stand)
            return answer

        for answer in ([(0, 1)], (), None, 5, "ab", [None] * 40, [[0, 1]]):
            stand = flown(start(2), [])
            self.assertIs(Asked(ask).burns(stand), answer)
            self.assertIs(kept[-1], stand)
        self.assertEqual(len(kept), 7)

    def test_as_many_burns_as_the_pace(self):
        for stand in some_stands(94, 40):
            for burner in BURNERS[:-1]:
                told = burner.burns(stand)
                self.assertTrue(type(told) is tuple and len(told) == stand.pace)
                self.assertTrue(all(burn is None or type(burn) is tuple and len(burn) == 2 for burn in told))
                self.assertEqual(burner.burns(stand=stand), told)


class Makes(unittest.TestCase):
    def test_attributes(self):
        self.assertEqual(Told([[0, 1], None, (2, 3)]).row, ((0, 1), None, (2, 3)))
        self.assertEqual((Ahead(60).steps, Ahead(steps=1).steps), (60, 1))
        ring = Ring([3, -4], 20)
        self.assertEqual((ring.middle, ring.size), ((3, -4), 20))
        block = Block(wide=8, corner=[3, -4])
        self.assertEqual((block.corner, block.wide), ((3, -4), 8))
        looker = Looker([[0, 2], (0, 1), [-3, 0]], 2)
        self.assertEqual((looker.tries, looker.deep), (((0, 2), (0, 1), (-3, 0)), 2))
        ask = len
        self.assertIs(Asked(ask).ask, ask)
        self.assertEqual((Told(row=()).row, Ring(size=1, middle=(0, 0)).size, Looker(deep=0, tries=((1, 1),)).deep), ((), 1, 0))

    def test_a_later_change_of_a_list_changes_no_burner(self):
        row, tries, middle = [[0, 1], None], [[0, 2]], [0, 5]
        told, looker, ring, block = Told(row), Looker(tries, 0), Ring(middle, 1), Block(middle, 1)
        row[0][0] = 9
        row.append(None)
        tries[0][0] = 9
        middle[0] = 9
        self.assertEqual((told.row, looker.tries, ring.middle, block.corner), (((0, 1), None), ((0, 2),), (0, 5), (0, 5)))

    def test_classes(self):
        kinds = (Told, Ahead, Ring, Block, Looker, Asked)
        for kind in kinds:
            self.assertEqual(kind.__bases__, (Burner,))
            self.assertIn("burns", vars(kind))
        for burner in BURNERS:
            self.assertIsInstance(burner, Burner)

    def raises(self, kind, part, call, *values):
        with self.assertRaises(kind) as caught:
            call(*values)
        self.assertIs(type(caught.exception), kind)
        self.assertEqual(caught.exception.part, part, values)

    def test_wrong_parts(self):
        for value in own.NO_BURNS:
            self.raises(BadBurns, "row", Told, value)
        for value in (*own.STRANGE, 0, 61, -1, FAR, [], (1,)):
            self.raises(BadNumber, "steps", Ahead, value)
        for value in own.NO_SQUARES:
            self.raises(BadSquare, "middle", Ring, value, 0)
            self.raises(BadSquare, "corner", Block, value, 0)
        for value in (*own.STRANGE, 0, 21, -1, FAR, [], (1,)):
            self.raises(BadNumber, "size", Ring, (0, 0), value)
        for value in (*own.STRANGE, 0, 9, -1, FAR, [], (1,)):
            self.raises(BadNumber, "wide", Block, (0, 0), value)
        for value in (*own.NO_LISTS, [], (), [(k, 0) for k in range(9)], [(0, 1), [0, 1]]):
            self.raises(BadSquares, "tries", Looker, value, None)
            self.raises(BadSquares, "tries", Looker, value, 0)
        for value in (*own.STRANGE, 3, -1, FAR, [], (1,)):
            self.raises(BadNumber, "deep", Looker, [(0, 1)], value)
        Looker([(k, 0) for k in range(8)], 2)

    def test_no_stands(self):
        for burner in BURNERS:
            for value in (*own.STRANGE, 0, [], (), Stand, str(start()), own.parts(start()), burner):
                self.raises(BadStand, "stand", burner.burns, value)


class Matches(unittest.TestCase):
    def test_a_match_is_the_flight_of_its_burns(self):
        for burner in BURNERS:
            for pace in (1, 2, 3, 12):
                turns = 24 // pace if pace > 1 else 16
                stand, burns = start(pace), []
                for _ in range(turns):
                    told = list(burner.burns(stand))
                    burns += told + [None] * (pace - len(told))
                    stand = flown(stand, told)
                told = match(burner, turns, pace)
                self.assertIs(type(told), Flight)
                self.assertEqual(told, flight(burns, pace))
                self.assertEqual(len(told.stands), turns + 1)
                for stand in told.stands:
                    self.assertNotIn(stand.square, stand.burnt)
                self.assertEqual(match(turns=turns, pace=pace, burner=burner), told)

    def test_each_stand_is_asked_of_once(self):
        kept = []

        def ask(stand):
            kept.append(stand)
            return [(0, 2 * stand.turn + 2), [1, 5]][:stand.turn % 3]

        told = match(Asked(ask), 6, 2)
        self.assertEqual(kept, list(told.stands[:-1]))
        self.assertEqual(told, flight([None, None, (0, 4), None, (0, 6), (1, 5), None, None, (0, 10), None, (0, 12), (1, 5)], 2))

    def test_turns(self):
        for pace in (1, 12):
            self.assertEqual(match(Ahead(2), 0, pace), flight([], pace))
            self.assertEqual(len(match(Told([]), 24, pace).stands), 25)
        self.assertEqual(match(Ahead(2), 3), match(Ahead(2), 3, 1))
        self.assertEqual(match(Below([(0, 2)]), 2), flight([(0, 2), None]))
        rows = [(k % 2, k) for k in range(40)]
        for pace in (1, 2, 12):
            self.assertEqual(match(Told(rows), 2, pace), flight(rows[:2 * pace], pace))
            self.assertEqual(match(Told(rows[:5]), 6, pace), flight(rows[:5] + [None] * (6 * pace - 5), pace))

    def raises(self, kind, part, *values):
        with self.assertRaises(kind) as caught:
            match(*values)
        self.assertIs(type(caught.exception), kind)
        self.assertEqual(caught.exception.part, part, values)

    def test_the_order_of_errors(self):
        for value in (*own.STRANGE, 0, [], [(0, 1)], (None,), Told, start(), "Told"):
            self.raises(BadBurns, "burner", value, None, None)
            self.raises(BadBurns, "burner", value, 1)
        for value in (*own.STRANGE, -1, 25, FAR, [], (1,)):
            self.raises(BadNumber, "turns", Asked(None), value, 0)
            self.raises(BadNumber, "turns", Told([]), value)
        for value in (*own.STRANGE, 0, 13, FAR, [], (1,)):
            self.raises(BadNumber, "pace", Asked(None), 3, value)
            self.raises(BadNumber, "pace", Asked(None), 0, value)

    def test_what_a_function_answers_wrongly(self):
        for value in own.NO_BURNS:
            kept = []

            def ask(stand):
                kept.append(stand.turn)
                return value if stand.turn == 2 else [(0, 3)]

            self.raises(BadBurns, "burns", Asked(ask), 5)
            self.assertEqual(kept, [0, 1, 2])
            kept.clear()
            self.assertEqual(len(match(Asked(ask), 2).stands), 3)

    def test_a_function_that_answers_too_much_or_raises(self):
        for pace in (1, 2, 12):
            with self.assertRaises(TooMany) as caught:
                match(Asked(lambda stand: [None] * (pace + (stand.turn == 1))), 4, pace)
            self.assertEqual((caught.exception.what, caught.exception.most), ("burns", pace))
            self.raises(BadBurns, "burns", Asked(lambda stand: [None] * 20 + [5]), 1, pace)

        def ask(stand):
            raise Wish("none")

        with self.assertRaises(Wish):
            match(Asked(ask), 1)
        self.assertEqual(match(Asked(ask), 0), flight([]))

    def test_a_list_that_is_changed_later(self):
        burns = [[0, 3]]

        def ask(stand):
            burns[0][1] += 1
            return burns

        self.assertEqual(match(Asked(ask), 3), flight([(0, 4), (0, 5), (0, 6)]))

    def test_nothing_passed_is_changed(self):
        for burner in BURNERS[:-1]:
            kept = copy.deepcopy(vars(burner))
            stand = flown(start(2), [(0, 6)])
            burner.burns(stand), match(burner, 3)
            self.assertEqual((vars(burner), stand), (kept, flown(start(2), [(0, 6)])))

    def test_a_short_time(self):
        wide = [(0, 1), (0, 2), (1, 1), (60, 60), (-1, 60), (60, 2), (59, -4), (30, -60)]
        for burner in (Looker(wide, 2), Looker(TRIES, 2), Ring((20, 20), 20), Block((30, 50), 8), Ahead(60), Ahead(2)):
            for pace, turns in ((1, 24), (2, 12), (12, 2)):
                begun = time.process_time()
                match(burner, turns, pace)
                self.assertLess(time.process_time() - begun, 6)


if __name__ == "__main__":
    unittest.main()
