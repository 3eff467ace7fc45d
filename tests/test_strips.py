"""Strips, the flyer and the shutter."""

import copy
import time
import unittest

import own
import strip as other
from nevercaught.check_strips import shows_passage
from nevercaught.errors import BadBoard, BadNumber, BadSquare, BadSquares, Misfit
from nevercaught.papers import Denial, Paper
from nevercaught.strips import Shut, Strip, Through, may_fly, passage, strip_burn, strip_game

FAR = 10 ** 59
SIZES = [(wide, power, far) for wide in range(1, 7) for power in (1, 2, 3) for far in (1, 2, 3, 4, 7, 9, 10, 17, 25, 60)]
NO_STRIPS = (*own.STRANGE, 0, (), [], (1, 1, 2), "Strip", Strip)
NO_FLIGHTS = (*own.STRANGE, 0, 7, (1, 2), [1, 2], [(1, 2), None], [(1, 2), 5], [(1, 2, 3)], [(1,)], [()], [(1, True)], [("a", "b")],
              [[(1, 2)]], ["ab"], [(1.0, 2)])


class Raising(unittest.TestCase):
    def raises(self, kind, part, call, *values):
        with self.assertRaises(kind) as caught:
            call(*values)
        self.assertIs(type(caught.exception), kind)
        self.assertEqual(caught.exception.part, part, values)


class Strips(Raising):
    def test_attributes(self):
        strip = Strip(6, 3, 60)
        self.assertEqual((strip.wide, strip.power, strip.far), (6, 3, 60))
        self.assertEqual(Strip(far=60, power=3, wide=6), strip)

    def test_equality(self):
        for value in (Strip(2, 1, 2), Strip(1, 2, 2), Strip(1, 1, 3), *NO_STRIPS):
            self.assertIs(Strip(1, 1, 2) == value, False)
            self.assertIs(Strip(1, 1, 2) != value, True)
        self.assertIs(Strip(1, 1, 2) == Strip(1, 1, 2), True)

    def test_wrong_parts(self):
        for value in (*own.STRANGE, 0, 7, -1, FAR, [], (1,)):
            self.raises(BadNumber, "wide", Strip, value, 0, 0)
            self.raises(BadNumber, "wide", Strip, value, 1, 1)
        for value in (*own.STRANGE, 0, 4, -1, FAR, [], (1,)):
            self.raises(BadNumber, "power", Strip, 1, value, 0)
            self.raises(BadNumber, "power", Strip, 6, value, 1)
        for value in (*own.STRANGE, 0, 61, -1, FAR, [], (1,)):
            self.raises(BadNumber, "far", Strip, 1, 1, value)


class OneTurn(Raising):
    def test_against_the_own(self):
        source = own.seeded(100)
        for sizes in SIZES:
            wide, power, far = sizes
            strip = Strip(*sizes)
            for _ in range(4):
                square = (source.randint(0, wide - 1), source.randint(-far - power, far + power))
                squares = [(x, y) for x in range(-1, wide + 1) for y in range(-far - power - 1, far + power + 2)]
                burnt = source.sample(squares, min(source.randint(0, 40), len(squares)))
                burnt += [s for s in other.band(*sizes, True) if s not in burnt and source.random() < 0.7]
                self.assertEqual(may_fly(strip, burnt, square), tuple(other.flights_of(sizes, burnt, square)))
                self.assertEqual(strip_burn(strip, burnt, square), other.burn_of(sizes, burnt, square))
                both = [s for upper in (True, False) for s in other.band(*sizes, upper)]
                burnt = sorted({*burnt, *both})
                self.assertEqual(strip_burn(strip, burnt, square), other.burn_of(sizes, burnt, square))
                self.assertEqual(may_fly(square=list(square), burnt=[list(s) for s in burnt], strip=strip),
                                 tuple(other.flights_of(sizes, burnt, square)))
                self.assertEqual(strip_burn(square=list(square), burnt=tuple(burnt), strip=strip), strip_burn(strip, burnt, square))

    def test_bands(self):
        strip = Strip(2, 2, 3)
        upper, lower = [(0, 3), (0, 4), (1, 3), (1, 4)], [(0, -4), (0, -3), (1, -4), (1, -3)]
        for row in (0, 1, 50, FAR):
            for many in range(4):
                self.assertEqual(strip_burn(strip, upper[:many], (0, row)), upper[many])
                self.assertEqual(strip_burn(strip, upper + lower[:many], (0, row)), lower[many])
        for row in (-1, -2, -50, -FAR):
            for many in range(4):
                self.assertEqual(strip_burn(strip, lower[:many], (0, row)), lower[many])
                self.assertEqual(strip_burn(strip, lower + upper[:many], (0, row)), upper[many])
        self.assertEqual(strip_burn(strip, upper + lower, (0, 0)), (0, -2))
        self.assertEqual(strip_burn(strip, upper + lower, (0, -2)), (0, -1))
        self.assertEqual(strip_burn(strip, upper[1:] + lower, (0, -2)), (0, 3))

    def test_the_square_of_the_flyer(self):
        strip = Strip(1, 1, 2)
        self.assertEqual(strip_burn(strip, [], (0, 2)), (0, 2))
        self.assertEqual(strip_burn(strip, [(0, 2)], (0, -2)), (0, -2))
        self.assertEqual(strip_burn(strip, [(0, 2), (0, -2), (0, 1)], (0, -1)), (0, 0))
        self.assertEqual(strip_burn(strip, [(0, 2), (0, -2), (0, 1)], (0, 1)), (0, -1))

    def test_no_square_left(self):
        strip = Strip(1, 1, 2)
        whole = [(0, y) for y in range(-2, 3)]
        self.assertIsNone(strip_burn(strip, whole, (0, 0)))
        self.assertIsNone(strip_burn(strip, whole[:2] + whole[3:], (0, 0)))
        self.assertEqual(strip_burn(strip, whole[:2] + whole[3:], (0, 9)), (0, 0))
        self.assertEqual(may_fly(strip, whole, (0, 0)), ())
        self.assertEqual(may_fly(strip, [], (0, FAR)), ((0, FAR - 1), (0, FAR + 1)))

    def test_the_order_of_errors(self):
        strip = Strip(2, 1, 2)
        for call in (may_fly, strip_burn):
            for value in NO_STRIPS:
                self.raises(BadBoard, "strip", call, value, None, None)
            for value in own.NO_LISTS:
                self.raises(BadSquares, "burnt", call, strip, value, None)
            for value in own.NO_SQUARES:
                self.raises(BadSquare, "square", call, strip, [(-1, 0)], value)
            for x in (-1, 2, FAR, -FAR):
                self.raises(Misfit, "square", call, strip, [], (x, 0))

    def test_nothing_passed_is_changed(self):
        burnt, square, flights = [[0, 2], (0, -2)], [0, 0], [[0, -1], [0, 0]]
        kept = copy.deepcopy((burnt, square, flights))
        strip = Strip(1, 1, 2)
        may_fly(strip, burnt, square), strip_burn(strip, burnt, square), strip_game(strip, 0, flights)
        shows_passage(strip, 0, Through(flights))
        self.assertEqual((burnt, square, flights), kept)
        self.assertEqual(strip, Strip(1, 1, 2))


def flyers(source, sizes):
    return (other.straight(True), other.straight(False), other.turning(source, sizes), other.seeking(sizes), other.wandering(source),
            other.staying(sizes))


class Games(Raising):
    def test_whole_games(self):
        source = own.seeded(101)
        ends = {"through": 0, "caught": 0, "on": 0}
        for wide, power, far in [sizes for sizes in SIZES if sizes[0] * sizes[2] <= 42]:
            sizes = (wide, power, far)
            strip, shut = Strip(*sizes), far > power * power * wide
            for choose in flyers(source, sizes):
                column = source.randrange(wide)
                burns, flights, end = other.game(sizes, column, choose)
                ends[end] += 1
                self.assertEqual(strip_game(strip, column, flights), tuple(burns))
                self.assertIs(shows_passage(strip, column, Through(flights)), end == "through")
                if shut:
                    self.assertEqual(end, "caught")
                    self.assertLessEqual(len(burns), 2 * power * wide + wide * (2 * far - 1) - 1)
                for many in range(0, len(flights), 7):
                    self.assertEqual(strip_game(strip, column, flights[:many]), tuple(burns[:many + 1]))
        self.assertGreater(min(ends["through"], ends["caught"]), 50)

    def test_just_within_reach_and_just_beyond(self):
        source = own.seeded(102)
        for wide in range(1, 7):
            for power in (1, 2, 3):
                for far in (power * power * wide, power * power * wide + 1):
                    if far > 60:
                        continue
                    ends = {other.game((wide, power, far), column, choose, 60)[2] for column in (0, wide - 1)
                            for choose in flyers(source, (wide, power, far))[:4]}
                    self.assertEqual("through" in ends or not isinstance(passage(Strip(wide, power, far), 0), Shut),
                                     far <= power * power * wide)

    def test_small_games(self):
        line = Strip(1, 1, 2)
        self.assertEqual(strip_game(line, 0, []), ((0, 2),))
        self.assertEqual(strip_game(line, 0, ((0, -1), [0, 0], (0, 1))), ((0, 2), (0, -2), (0, -1), (0, 0)))
        self.assertEqual(strip_game(Strip(1, 1, 1), 0, [(0, -1)]), ((0, 1),))
        self.assertEqual(strip_game(flights=[], column=0, strip=Strip(1, 1, 1)), ((0, 1),))
        self.assertEqual(strip_game(Strip(2, 1, 1), 1, [(0, 0), (1, -1)]), ((0, 1), (1, 1)))

    def test_flights_that_are_none(self):
        line, pair = Strip(1, 1, 2), Strip(2, 1, 2)
        for flights in ([(0, 0)], [(0, 2)], [(1, 0)], [(-1, 0)], [(0, 3)], [(0, -1), (0, -2)], [(0, -1), (0, -1)], [(0, -2)],
                        [(0, -1), (0, 0), (0, 1), (0, 2)], [(FAR, 0)]):
            self.raises(Misfit, "flights", strip_game, line, 0, flights)
        through = [(0, -1), (1, -2)]
        self.assertEqual(len(strip_game(pair, 0, through)), 2)
        for more in ((1, -1), (1, -3), (0, -1)):
            self.raises(Misfit, "flights", strip_game, pair, 0, through + [more])
        self.raises(Misfit, "flights", strip_game, Strip(1, 1, 1), 0, [(0, 1)])

    def test_the_order_of_errors(self):
        for value in NO_STRIPS:
            self.raises(BadBoard, "strip", strip_game, value, None, None)
            self.raises(BadBoard, "strip", passage, value, None)
        for value in (*own.STRANGE, 2, -1, FAR, [], (1,)):
            self.raises(BadNumber, "column", strip_game, Strip(2, 1, 2), value, None)
            self.raises(BadNumber, "column", passage, Strip(2, 1, 2), value)
        for value in NO_FLIGHTS:
            self.raises(BadSquares, "flights", strip_game, Strip(2, 1, 2), 1, value)
        self.raises(BadSquares, "flights", strip_game, Strip(2, 1, 2), 1, [(9, 9), None])

    def test_flights_that_are_alike(self):
        strip = Strip(3, 1, 9)
        burns, flights, _ = other.game((3, 1, 9), 1, lambda square, squares, shut: (1, 1) if square == (1, 0) else (1, 0), 12)
        self.assertEqual(strip_game(strip, 1, flights), tuple(burns) + (other.burn_of((3, 1, 9), burns, (1, 0)),))


class Passages(unittest.TestCase):
    def test_all_strips(self):
        for wide in range(1, 7):
            for power in (1, 2, 3):
                for far in range(1, 61):
                    strip = Strip(wide, power, far)
                    for column in {0, wide // 2, wide - 1}:
                        told = passage(strip, column)
                        self.assertIs(shows_passage(strip, column, told), True)
                        if far > power * power * wide:
                            self.assertIs(type(told), Shut)
                            self.assertEqual(told.turns, 2 * power * wide + wide * (2 * far - 1) - 1)
                            continue
                        self.assertIs(type(told), Through)
                        waiting = list(told.flights)
                        _, flights, end = other.game((wide, power, far), column, lambda square, squares, shut: (
                            waiting.pop(0) if waiting and waiting[0] in squares else None))
                        self.assertEqual((flights, end, waiting), (list(told.flights), "through", []))

    def test_what_the_papers_have(self):
        told = passage(Strip(1, 1, 1), 0)
        self.assertEqual((told.word, told.parts, bool(told)), ("through", (((0, -1),),), True))
        told = passage(column=0, strip=Strip(1, 1, 2))
        self.assertEqual((told.word, told.parts, told.turns, bool(told)), ("shut", (4,), 4, False))
        self.assertTrue(issubclass(Shut, Denial) and issubclass(Through, Paper) and not issubclass(Through, Denial))
        self.assertEqual((Through(flights=[[1]]).flights, Shut(turns=None).turns), (((1,),), None))
        self.assertIs(Shut(4) == Denial("shut", 4), False)
        self.assertEqual(passage(Strip(3, 1, 3), 2), passage(Strip(3, 1, 3), 2))

    def test_it_is_caught_at_the_told_turn_at_times(self):
        burns, flights, end = other.game((1, 1, 2), 0, other.staying((1, 1, 2)))
        self.assertEqual((len(burns), end), (passage(Strip(1, 1, 2), 0).turns, "caught"))

    def test_a_short_time(self):
        strip = Strip(6, 3, 60)
        burns, flights, _ = other.game((6, 3, 60), 0, other.staying((6, 3, 60)), 200)
        begun = time.process_time()
        self.assertEqual(strip_game(strip, 0, flights), tuple(burns) + (other.burn_of((6, 3, 60), burns, flights[-1]),))
        self.assertIs(shows_passage(strip, 0, Through(flights)), False)
        may_fly(strip, burns, (0, 0)), strip_burn(strip, burns, (0, 0)), passage(strip, 0)
        self.assertLess(time.process_time() - begun, 2)


if __name__ == "__main__":
    unittest.main()
