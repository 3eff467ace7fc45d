"""Whether a Flight is right: papers told by flight, and bent ones."""

import copy
import time
import unittest

import games
import own
from own import Sore
from nevercaught.best import Best, best_for
from nevercaught.check_flights import shows_flight
from nevercaught.errors import BadBurns, BadNumber
from nevercaught.flights import Flight, boards_of, flight
from nevercaught.papers import Denial, Paper
from nevercaught.stands import Stand, flown, start

GAMES = games.rows(40, 30, 12)


class Below(Flight):
    """A class below Flight."""


class Alike(Stand):
    """A class of stands that says it equals everything."""

    def __eq__(self, other):
        return True


class Told(unittest.TestCase):
    def test_what_flight_tells_is_right(self):
        for pace, burns in GAMES:
            told = flight(burns, pace)
            self.assertIs(shows_flight(burns, told, pace), True)
            self.assertIs(shows_flight(pace=pace, value=Flight(list(told.stands), list(told.walls)), burns=tuple(burns)), True)
            self.assertIs(shows_flight(burns + [None] * (-len(burns) % pace), told, pace), True)
        self.assertIs(shows_flight([], flight([])), True)
        self.assertIs(shows_flight([], flight([], 2), 2), True)

    def test_made_anew(self):
        for pace, burns in GAMES[:10]:
            told = flight(burns, pace)
            stands = [Stand(*[list(part) if type(part) is tuple else part for part in own.parts(stand)]) for stand in told.stands]
            walls = [Best(*[[list(row) for row in part] for part in best.parts]) for best in told.walls]
            self.assertIs(shows_flight(burns, Flight(stands, walls), pace), True)

    def test_any_right_flow(self):
        burns = [(4, 4), (3, 8), (5, 2)]
        told = flight(burns)
        counts = {True: 0, False: 0}
        for turn, board in enumerate(boards_of(burns)):
            column, low, high = own.box(board)
            for x in range(1, column + 1):
                for row in range(1, high - low + 1):
                    for more in (-1, 1):
                        squares, right, up = [[list(line) for line in part] for part in told.walls[turn].parts]
                        right[row - 1][x - 1] += more
                        right[row][x - 1] -= more
                        up[row][x - 1] -= more
                        up[row][x] += more
                        walls = list(told.walls)
                        walls[turn] = Best(squares, right, up)
                        form = own.flow_shows(board, [tuple(s) for s in squares], right, up)
                        counts[form] += 1
                        self.assertIs(shows_flight(burns, Flight(told.stands, walls)), form)
        self.assertGreater(min(counts.values()), 3)


class Bent(unittest.TestCase):
    def refuses(self, burns, value, pace=1):
        self.assertIs(shows_flight(burns, value, pace), False)

    def test_other_games(self):
        for pace, burns in GAMES:
            told = flight(burns, pace)
            for other in (1, 2, 3, 12):
                if other != pace:
                    self.refuses(burns, told, other)
            self.refuses(burns + [None] * (1 + -len(burns) % pace), told, pace)
            self.refuses(burns[:(len(told.walls) - 1) * pace], told, pace)
            self.refuses(burns, Flight(told.stands[:-1], told.walls), pace)
            self.refuses(burns, Flight(told.stands, told.walls[:-1]), pace)
            self.refuses(burns, Flight(told.stands[:-1], told.walls[:-1]), pace)
            self.refuses(burns, Flight(told.stands + told.stands[-1:], told.walls), pace)
            self.refuses(burns, Flight(told.stands, told.walls + told.walls[-1:]), pace)
            self.refuses(burns, Flight(told.stands[1:], told.walls), pace)
            self.refuses(burns, Flight(told.walls, told.stands), pace)
            self.refuses([(0, 1)] + burns[1:] if burns[0] != (0, 1) else [None] + burns[1:], told, pace)
        self.refuses([], flight([], 2))
        self.refuses([None], Flight([], []))
        self.refuses([], Flight([], []))

    def test_stands_exchanged(self):
        for pace, burns in GAMES:
            told = flight(burns, pace)
            for turn, stand in enumerate(told.stands):
                others = [flown(stand, []), start(1 + pace % 12), str(stand), own.parts(stand), None, Sore(), 0, True, told]
                parts = own.parts(stand)
                others += [Stand(parts[0], parts[1] + 1, *parts[2:]), Stand(*parts[:7], (*parts[7], (-60, 60))),
                           Stand(*parts[:6], (*parts[6], (50, -50)), parts[7]), Stand(*parts[:5], (*parts[5], (50, -50)), *parts[6:])]
                for other in others:
                    self.refuses(burns, Flight(told.stands[:turn] + (other,) + told.stands[turn + 1:], told.walls), pace)

    def test_stands_of_a_class_below(self):
        told = flight([(0, 3)])
        false = Alike(*own.parts(start(2)))
        self.refuses([(0, 3)], Flight([false, *told.stands[1:]], told.walls))

    def test_walls_exchanged(self):
        count = 0
        for pace, burns in GAMES:
            told = flight(burns, pace)
            boards = boards_of(burns, pace)
            for turn, best in enumerate(told.walls):
                for other in range(len(told.walls)):
                    board = boards[turn]
                    walls = list(told.walls)
                    walls[turn] = told.walls[other]
                    right = own.has_form(board, walls[turn]) and own.flow_shows(board, *walls[turn].parts)
                    count += right and other != turn
                    self.assertIs(shows_flight(burns, Flight(told.stands, walls), pace), right)
                for value in (None, Sore(), 0, [], best.parts, best.squares, Paper("best", *best.parts), told):
                    walls[turn] = value
                    self.refuses(burns, Flight(told.stands, walls), pace)
        self.assertGreater(count, 3)

    def test_amounts_changed(self):
        burns = [(1, 3), (0, 5)]
        told = flight(burns)
        for turn, board in enumerate(boards_of(burns)):
            for part in (1, 2):
                for row in range(len(told.walls[turn].parts[part])):
                    for at in range(len(told.walls[turn].parts[part][row])):
                        for change in (lambda amount: amount + 1, lambda amount: -amount, lambda amount: True, str, lambda amount: None,
                                       lambda amount: [amount]):
                            parts = [[list(line) for line in part] for part in told.walls[turn].parts]
                            parts[part][row][at] = change(parts[part][row][at])
                            walls = list(told.walls)
                            walls[turn] = Best(*parts)
                            right = own.has_form(board, walls[turn]) and own.flow_shows(board, *walls[turn].parts)
                            self.assertIs(shows_flight(burns, Flight(told.stands, walls)), right)

    def test_walls_that_are_no_best_ones(self):
        burns = [(0, 3), (5, 5)]
        told = flight(burns)
        for squares in ([], [(0, 3), (0, 4)], [[0, 3], [0, 3]], [(0, True)], "03", None):
            self.refuses(burns, Flight(told.stands, [told.walls[0], Best(squares, *told.walls[1].parts[1:])]))

    def test_other_values(self):
        burns = [(0, 3)]
        told = flight(burns)
        values = (*own.STRANGE, 0, 1, [], (), told.parts, list(told.parts), told.stands, "flight", Flight, Sore(), told.walls[0],
                  Paper("flight", *told.parts), Denial("flight", *told.parts), Below(*told.parts), best_for(boards_of(burns)[0]))
        for value in values:
            self.refuses(burns, value)
            self.refuses([], value)
            self.refuses(burns, Flight(told.stands, value))
            self.refuses(burns, Flight(value, value))
            if value is not told.stands:
                self.refuses(burns, Flight(value, told.walls))
        for text in ("ab", "a", ""):
            self.refuses([], Flight(text, text))
            self.refuses([None], Flight(text, text))

    def test_nothing_passed_is_changed(self):
        burns = [[0, 3], None]
        told = flight(burns)
        kept = copy.deepcopy(told)
        shows_flight(burns, told)
        self.assertEqual((burns, told), ([[0, 3], None], kept))


class WrongInputs(unittest.TestCase):
    def raises(self, kind, part, *values):
        with self.assertRaises(kind) as caught:
            shows_flight(*values)
        self.assertEqual(caught.exception.part, part, values)

    def test_the_order_of_errors(self):
        for value in own.NO_BURNS:
            self.raises(BadBurns, "burns", value, flight([]), 1)
            self.raises(BadBurns, "burns", value, None, value)
        for value in (*own.STRANGE, 0, 13, -1, [], (1,)):
            self.raises(BadNumber, "pace", [], flight([]), value)
            self.raises(BadNumber, "pace", [(0, 3)], None, value)

    def test_a_short_time(self):
        source = own.seeded(41)
        for _ in range(3):
            burns = [(source.randint(0, 60), source.randint(-60, 60)) for _ in range(24)]
            begun = time.process_time()
            self.assertIs(shows_flight(burns, flight(burns)), True)
            self.assertLess(time.process_time() - begun, 6)


if __name__ == "__main__":
    unittest.main()
