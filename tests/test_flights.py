"""Flights: whole games of the runner."""

import copy
import time
import unittest

import games
import own
from nevercaught.best import Best
from nevercaught.boards import Board
from nevercaught.check_best import shows_best
from nevercaught.errors import BadBurns, BadNumber
from nevercaught.flights import Flight, boards_of, flight, where
from nevercaught.papers import Denial, Paper
from nevercaught.stands import Stand, flown, start

FAR = 10 ** 59
GAMES = games.rows(30, 80)


def cost(wall, burnt):
    return own.rank(wall, burnt)[0]


class WholeGames(unittest.TestCase):
    def test_the_game_of_the_told_walls(self):
        for pace, burns in GAMES:
            told = flight(burns, pace)
            stands, boards = own.game(burns, pace, lambda turn, board: told.walls[turn - 1].squares)
            self.assertEqual([own.parts(stand) for stand in told.stands], stands)
            self.assertEqual(where(burns, pace), tuple(stand[2] for stand in stands))
            self.assertEqual([(b.held, b.passed, b.burnt) for b in boards_of(burns, pace)],
                             [(b.held, b.passed, b.burnt) for b in boards])

    def test_each_told_wall_is_shown_best(self):
        for pace, burns in GAMES[::3]:
            told = flight(burns, pace)
            for board, best in zip(boards_of(burns, pace), told.walls):
                self.assertIs(shows_best(board, best), True)
                self.assertTrue(own.has_form(board, best))
                self.assertTrue(own.flow_shows(board, best.squares, best.right, best.up))

    def test_these_games_lead_aside_and_back_and_round(self):
        pairs = [pair for pace, burns in GAMES for pair in zip(where(burns, pace), where(burns, pace)[1:])]
        self.assertGreater(sum(one == other for one, other in pairs), 3)
        self.assertGreater(sum(other[1] < one[1] for one, other in pairs), 3)
        self.assertGreater(sum(where(burns, pace)[-1][0] > 0 for pace, burns in GAMES), 9)

    def test_small_games_against_a_trial_of_all_walls(self):
        source = own.seeded(31)
        for number in range(40):
            pace = (1, 1, 2, 3)[number % 4]
            squares = [(x, y) for x in range(-1, 2) for y in range(1, 6)]
            burns = [source.choice((None, *squares * 3)) for _ in range(source.randint(1, 6))]
            stands, _ = own.game(burns, pace, lambda turn, board: own.trial(board)[0])
            self.assertEqual([own.parts(stand) for stand in flight(burns, pace).stands], stands, burns)
            self.assertEqual(where(burns, pace), tuple(stand[2] for stand in stands))

    def test_the_runner_is_never_caught(self):
        for pace, burns in GAMES:
            last = None
            for stand in flight(burns, pace).stands:
                x, y = stand.square
                self.assertNotIn(stand.square, stand.burnt)
                self.assertTrue(0 <= x <= y)
                if last is not None:
                    self.assertLessEqual(max(abs(x - last[0]), abs(y - last[1])), 2 * pace)
                last = stand.square

    def test_walls_grow_and_never_cost_more(self):
        for pace, burns in GAMES:
            stands = flight(burns, pace).stands
            for one, other in zip(stands, stands[1:]):
                self.assertLessEqual(set(one.wall), set(other.wall))
                self.assertLessEqual(set(one.passed), set(other.passed))
                self.assertFalse(set(other.wall) & set(other.passed))
                self.assertLessEqual(cost(other.wall, other.burnt), cost(one.wall, other.burnt))
                self.assertLessEqual(cost(other.wall, other.burnt), 0)
                if one.burnt == other.burnt:
                    self.assertEqual(one.wall, other.wall)

    def test_the_steps_run_begin_the_line_of_each_later_wall(self):
        for pace, burns in GAMES:
            stands = flight(burns, pace).stands
            steps = [((0, 1), (0, 1), (0, 0))]
            for one, other in zip(stands, stands[1:]):
                steps += own.walk(other.wall, one.corner, one.heading, 2 * pace)
                line = own.line(other.wall) + own.walk(other.wall, (0, max([0, *[y for _, y in other.wall]]) + 3), (0, 1), 99)
                first = line.index(steps[0])
                self.assertEqual(line[first:first + len(steps)], steps)
                self.assertEqual({step[2] for step in steps}, set(other.passed))

    def test_burns_in_another_order_within_a_turn(self):
        source = own.seeded(32)
        for pace, burns in GAMES:
            turns = [burns[at:at + pace] for at in range(0, len(burns), pace)]
            turned = [burn for turn in turns for burn in source.sample(turn, len(turn))]
            self.assertEqual(where(turned, pace), where(burns, pace))
            self.assertEqual(flight(turned, pace), flight(burns, pace))

    def test_none_put_behind(self):
        for pace, burns in GAMES:
            lack = -len(burns) % pace
            self.assertEqual(flight(burns + [None] * lack, pace), flight(burns, pace))
            longer = flight(burns + [None] * (lack + 1), pace)
            self.assertEqual(longer.stands[:-1], flight(burns, pace).stands)
            self.assertEqual(longer.stands[-1], flown(longer.stands[-2], []))

    def test_turn_by_turn(self):
        for pace, burns in GAMES[::4]:
            told = flight(burns, pace).stands
            stand = start(pace)
            for turn in range(len(told)):
                self.assertEqual(stand, told[turn])
                self.assertEqual(where(burns[:turn * pace], pace), where(burns, pace)[:turn + 1])
                stand = flown(stand, burns[turn * pace:turn * pace + pace])


class Edges(unittest.TestCase):
    def test_no_burns(self):
        for pace in (1, 2, 12):
            told = flight([], pace)
            self.assertEqual((told.stands, told.walls), ((start(pace),), ()))
            self.assertEqual((where((), pace), boards_of([], pace)), (((0, 0),), ()))

    def test_burns_of_none(self):
        told = flight([None] * 3)
        self.assertEqual([stand.square for stand in told.stands], [(0, 0), (0, 2), (0, 4), (0, 6)])
        self.assertEqual(told.walls, (Best([], [], []),) * 3)
        self.assertEqual(boards_of([None])[0], Board([], [(0, 0)], []))

    def test_a_last_turn_with_fewer_burns(self):
        self.assertEqual(len(flight([None] * 13, 12).stands), 3)
        self.assertEqual(len(flight([None] * 12, 12).stands), 2)
        self.assertEqual(where([None] * 25, 12)[-1], (0, 72))
        self.assertEqual(where([(0, 3)] * 4, 3), where([(0, 3)] * 6, 3))

    def test_its_own_square(self):
        self.assertEqual(where([(0, 0), (0, 2), (0, 4)]), ((0, 0), (0, 2), (0, 4), (0, 6)))
        self.assertEqual(boards_of([(0, 0), (0, 2)])[1].burnt, ())
        self.assertEqual(boards_of([None, (0, 0)])[1].burnt, ((0, 0),))

    def test_burns_that_are_kept_in_boards(self):
        burns = [(-1, 5), (0, 3), (0, 3), (0, 0), (0, 1)]
        self.assertEqual(boards_of(burns)[-1].burnt, ((-1, 5), (0, 0), (0, 1), (0, 3)))
        self.assertEqual(boards_of(burns)[2].held, ((0, 3),))
        self.assertEqual([len(board.burnt) for board in boards_of(burns)], [1, 2, 2, 3, 4])

    def test_far_burns(self):
        self.assertEqual(where([(-FAR, FAR)]), ((0, 0), (0, 2)))

    def test_lists_and_tuples_alike(self):
        for pace, burns in GAMES[:10]:
            lists = [burn and list(burn) for burn in burns]
            for call in (flight, where, boards_of):
                self.assertEqual(call(lists, pace), call(tuple(burns), pace))
                self.assertEqual(call(pace=pace, burns=burns), call(burns, pace))
        self.assertEqual(flight([(0, 3)]), flight([(0, 3)], 1))
        self.assertEqual((where([(0, 3)]), boards_of([(0, 3)])), (where([(0, 3)], 1), boards_of([(0, 3)], 1)))

    def test_what_a_flight_has(self):
        told = flight([(0, 3)])
        self.assertIs(type(told), Flight)
        self.assertEqual((told.word, told.parts), ("flight", (told.stands, told.walls)))
        self.assertTrue(all(type(stand) is Stand for stand in told.stands) and all(type(best) is Best for best in told.walls))
        self.assertTrue(type(told.stands) is tuple and type(told.walls) is tuple and type(boards_of([None])) is tuple)
        self.assertTrue(all(type(square) is tuple for square in where([[0, 3]])))
        self.assertTrue(all(type(board) is Board for board in boards_of([None])))
        self.assertIs(bool(Flight(None, 0)), True)
        self.assertTrue(issubclass(Flight, Paper) and not issubclass(Flight, Denial))
        self.assertEqual(Flight(walls=[[1]], stands="x").parts, ("x", ((1,),)))

    def test_nothing_passed_is_changed(self):
        burns = [[0, 3], None, [1, 4], (2, 2)]
        kept = copy.deepcopy(burns)
        told = flight(burns, 2)
        where(burns, 2), boards_of(burns, 2)
        self.assertEqual(burns, kept)
        burns[0][0] = 9
        burns.append(None)
        self.assertEqual(told, flight(kept, 2))

    def test_a_short_time(self):
        source = own.seeded(33)
        some = [(source.randint(0, 60), source.randint(-60, 60)) for _ in range(24)]
        diagonal = [(k * 60 // 23, k * 60 // 23) for k in range(24)]
        near = [(source.randint(0, 9), source.randint(1, 50)) for _ in range(23)]
        for burns in (some, diagonal, [(60, 60), *near], [(60, -60), *near], near):
            for pace in (1, 2, 12):
                begun = time.process_time()
                told = flight(burns, pace)
                self.assertEqual([stand.square for stand in told.stands], list(where(burns, pace)))
                self.assertLess(time.process_time() - begun, 6)


class WrongInputs(unittest.TestCase):
    def raises(self, kind, part, call, *values):
        with self.assertRaises(kind) as caught:
            call(*values)
        self.assertIs(type(caught.exception), kind)
        self.assertEqual(caught.exception.part, part, values)

    def test_the_order_of_errors(self):
        for call in (flight, where, boards_of):
            for value in own.NO_BURNS:
                self.raises(BadBurns, "burns", call, value)
                self.raises(BadBurns, "burns", call, value, value)
            for value in (*own.STRANGE, 0, 13, -1, FAR, [], (1,)):
                self.raises(BadNumber, "pace", call, [(0, 3), None], value)
                self.raises(BadNumber, "pace", call, [], value)


if __name__ == "__main__":
    unittest.main()
