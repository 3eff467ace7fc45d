"""Seats, against a book of the tests' own."""

import copy
import time
import unittest

import own
import seating
from nevercaught.errors import BadBurns, BadNumber, BadSquare, Misfit, TooMany, Twice
from nevercaught.flights import flight
from nevercaught.seats import Seat
from nevercaught.stands import Stand, start


class Compared(unittest.TestCase):
    """Seats beside a book."""

    def same(self, seat, book):
        self.assertEqual(seating.parts(seat), book.parts())

    def bring(self, seat, book, letter, source):
        """Lets the seat hear a letter, in lists or tuples."""
        turn, number, burn = letter
        if source.random() < 0.5:
            letter = [turn, number, burn if burn is None else list(burn)]
        self.assertIs(seat.hears(letter), book.learn(turn, number, burn))

    def refuse(self, seat, kind, fields, ask, *values):
        """What raises changes nothing."""
        before = seating.parts(seat)
        with self.assertRaises(kind) as caught:
            ask(*values)
        self.assertEqual(vars(caught.exception), fields)
        self.assertEqual(seating.parts(seat), before)


class RandomGames(Compared):
    def test_letters_in_any_order(self):
        source = own.seeded(941)
        for game in range(60):
            many, turns = source.choice(((1, 8), (2, 8), (2, 6), (3, 6), (4, 4), (12, 2)))
            number, lead, every = source.randrange(many), source.choice((0, 1, 2, 3, 20)), source.choice((1, 2, 3, 5, 20))
            burns = seating.table(source, many, turns)
            letters = [(turn, seat, burn) for (turn, seat), burn in burns.items() if seat != number]
            if source.random() < 0.7:
                letters.sort(key=lambda letter: letter[0] + source.uniform(-3, 3))
            else:
                source.shuffle(letters)
            seat, book = Seat(number, many, lead, every), seating.Book(number, many, lead, every)
            self.same(seat, book)
            while letters or seat.own <= turns or seat.shown.turn < turns:
                self.one(source, seat, book, burns, letters, turns)
                self.same(seat, book)
            self.assertEqual((seat.settled, seat.asks()), (turns, ()))
            row = [burns[turn, k] for turn in range(1, turns + 1) for k in range(many)]
            self.assertEqual(seat.shown, flight(row, many).stands[-1])
            self.assertEqual(seat.kept, flight(row, many).stands[::every])

    def one(self, source, seat, book, burns, letters, turns):
        """One thing that happens to a seat."""
        kind = source.random()
        if kind < 0.35 and seat.own <= turns:
            turn, burn = seat.own, burns[seat.own, seat.number]
            told = seat.decide(burn if burn is None or source.random() < 0.5 else list(burn))
            self.assertEqual((told, type(told)), ((turn, seat.number, burn), tuple))
            book.decide(burn)
        elif kind < 0.65 and seat.shown.turn < turns:
            if book.may_tick():
                book.turn += 1
                self.assertIs(seat.tick(), seat.shown)
            else:
                self.refuse(seat, Misfit, {"part": "lead"}, seat.tick)
        elif kind < 0.75 and seat.known:
            turn, number, burn = source.choice(seat.known)
            self.assertIs(seat.hears((turn, number, burn)), False)
            self.refuse(seat, Twice, {"value": (turn, number)}, seat.hears, [turn, number, (50, 50) if burn is None else None])
        elif kind < 0.8 and seat.many < 12:
            other = source.randint(seat.many, 11)
            self.refuse(seat, Misfit, {"part": "seat"}, seat.hears, (source.randint(1, 60), other, None))
        elif kind < 0.85 and seat.own <= 60:
            self.refuse(seat, Misfit, {"part": "turn"}, seat.hears, (source.randint(seat.own, 60), seat.number, (0, 3)))
        elif letters:
            self.bring(seat, book, letters.pop(0), source)

    def test_a_seat_that_is_read_goes_on(self):
        source = own.seeded(942)
        for game in range(20):
            many, turns, lead, every = 2, 6, source.choice((0, 2, 20)), source.choice((1, 2, 4))
            burns = seating.table(source, many, turns)
            letters = [(turn, 0, burns[turn, 0]) for turn in range(1, turns + 1)]
            source.shuffle(letters)
            seat, book = Seat(1, many, lead, every), seating.Book(1, many, lead, every)
            while letters or seat.own <= turns or seat.shown.turn < turns:
                again = Seat.read(str(seat))
                self.assertTrue(again == seat and seat == again and not again != seat)
                self.assertEqual(seating.parts(again), seating.parts(seat))
                seat = source.choice((seat, again))
                self.one_of(source, seat, book, burns, letters, turns)
                self.same(seat, book)

    def one_of(self, source, seat, book, burns, letters, turns):
        kind = source.random()
        if kind < 0.3 and seat.own <= turns:
            book.decide(burns[seat.own, 1])
            seat.decide(burns[seat.own, 1])
        elif kind < 0.7 and book.may_tick() and seat.shown.turn < turns:
            book.turn += 1
            seat.tick()
        elif letters:
            self.bring(seat, book, letters.pop(), source)


class GoingBack(Compared):
    def test_none_changes_nothing_in_the_shown_game(self):
        seat, book = Seat(0, 2, 20, 2), seating.Book(0, 2, 20, 2)
        for _ in range(7):
            seat.tick()
            book.turn += 1
        shown, kept = seat.shown, seat.kept
        for turn in (3, 7, 1):
            self.assertIs(seat.hears((turn, 1, None)), True)
            book.learn(turn, 1, None)
        for _ in range(3):
            seat.decide(None)
            book.decide(None)
        self.assertIs(seat.shown, shown)
        self.assertTrue(all(one is other for one, other in zip(seat.kept, kept)))
        self.assertEqual((seat.backs, seat.rerun, seat.settled), (0, 0, 1))
        self.same(seat, book)

    def test_how_far_it_goes_back(self):
        for every in (1, 2, 3, 7, 20):
            for turn in range(1, 10):
                seat = Seat(0, 3, 20, every)
                for _ in range(9):
                    seat.tick()
                kept = seat.kept
                self.assertIs(seat.hears((turn, 2, (0, 2 * turn))), True)
                last = (turn - 1) // every * every
                self.assertEqual((seat.backs, seat.rerun), (1, 9 - last))
                self.assertLess(seat.rerun, 9 - turn + 1 + every)
                for stand, other in zip(kept, seat.kept):
                    self.assertEqual(stand is other, stand.turn < turn)
                row = [None] * (3 * turn - 1) + [(0, 2 * turn)] + [None] * (3 * (9 - turn))
                self.assertEqual((seat.shown, seat.kept), (flight(row, 3).stands[-1], flight(row, 3).stands[::every]))

    def test_a_burn_that_does_nothing_goes_back_too(self):
        seat = Seat(1, 2, 4, 1)
        for _ in range(3):
            seat.tick()
        shown = seat.shown
        self.assertIs(seat.hears((2, 0, shown.square)), True)
        self.assertEqual((seat.backs, seat.rerun), (1, 2))
        self.assertIs(seat.hears((3, 0, (0, 8))), True)
        self.assertEqual((seat.backs, seat.rerun), (2, 3))
        # The square on which the runner stands is not burnt, whoever says so.
        self.assertEqual(seat.shown.burnt, ((0, 12),))

    def test_the_own_decision_goes_back(self):
        seat = Seat(0, 1, 2, 3)
        seat.tick(), seat.tick()
        self.assertEqual(seat.decide([0, 1]), (1, 0, (0, 1)))
        self.assertEqual((seat.backs, seat.rerun, seat.shown.square), (1, 2, (0, 2)))
        self.assertEqual(seat.decide((0, 4)), (2, 0, (0, 4)))
        self.assertEqual((seat.backs, seat.rerun), (2, 4))
        self.assertEqual(seat.shown, flight([(0, 1), (0, 4)]).stands[2])
        # A turn that is not shown yet lets nothing go back.
        self.assertEqual(seat.decide((0, 5)), (3, 0, (0, 5)))
        self.assertEqual((seat.backs, seat.rerun, seat.settled, seat.shown.turn), (2, 4, 3, 2))
        self.assertIs(seat.sure(), seat.shown)


class Bounds(Compared):
    def test_turn_60_and_61(self):
        for many, number in ((1, 0), (2, 1), (12, 11)):
            seat = Seat(number, many, 20, 20)
            for turn in range(1, 61):
                for other in range(many):
                    if other != number:
                        self.assertIs(seat.hears((turn, other, seating.idle(turn, other))), True)
                self.assertEqual(seat.decide(seating.idle(turn, number)), (turn, number, seating.idle(turn, number)))
                self.assertEqual(seat.tick().turn, turn)
            self.assertEqual((seat.settled, seat.own, seat.backs, len(seat.known)), (60, 61, 0, 60 * many))
            self.assertEqual([stand.turn for stand in seat.kept], [0, 20, 40, 60])
            self.refuse(seat, TooMany, {"what": "turns", "most": 60}, seat.decide, (0, 3))
            self.refuse(seat, TooMany, {"what": "turns", "most": 60}, seat.decide, None)
            self.refuse(seat, BadSquare, {"part": "burn"}, seat.decide, 5)
            self.refuse(seat, TooMany, {"what": "turns", "most": 60}, seat.tick)
            self.assertIs(seat.hears([60, number, seating.idle(60, number)]), False)
            self.refuse(seat, Twice, {"value": (60, number)}, seat.hears, (60, number, (7, 7)))
            self.assertEqual((seat.asks(), seat.sure()), ((), seat.shown))
            self.assertEqual(Seat.read(str(seat)), seat)

    def test_lead_comes_ahead_of_too_many_turns(self):
        seat = Seat(0, 2, 20, 20)
        for turn in range(1, 41):
            seat.hears((turn, 1, None))
            seat.decide(None)
        for _ in range(60):
            seat.tick()
        self.assertEqual((seat.settled, seat.shown.turn), (40, 60))
        self.refuse(seat, Misfit, {"part": "lead"}, seat.tick)
        seat.hears((41, 1, None))
        self.refuse(seat, Misfit, {"part": "lead"}, seat.tick)
        seat.decide(None)
        self.refuse(seat, TooMany, {"what": "turns", "most": 60}, seat.tick)

    def test_leads(self):
        for lead in (0, 1, 20):
            seat = Seat(0, 2, lead, 1)
            for turn in range(1, lead + 1):
                self.assertEqual(seat.tick().turn, turn)
            self.refuse(seat, Misfit, {"part": "lead"}, seat.tick)
            seat.decide(None)
            self.refuse(seat, Misfit, {"part": "lead"}, seat.tick)
            seat.hears((1, 1, None))
            self.assertEqual(seat.tick().turn, lead + 1)
            self.refuse(seat, Misfit, {"part": "lead"}, seat.tick)

    def test_what_is_kept(self):
        for every in (1, 2, 20):
            seat = Seat(0, 1, 20, every)
            self.assertEqual(seat.kept, (start(1),))
            for turn in range(1, 21):
                seat.tick()
                self.assertEqual([stand.turn for stand in seat.kept], [k for k in range(turn + 1) if k % every == 0])
                self.assertTrue(all(type(stand) is Stand and stand.pace == 1 for stand in seat.kept))

    def test_asks(self):
        seat = Seat(1, 3, 5, 1)
        self.assertEqual(seat.asks(), ())
        seat.tick()
        self.assertEqual(seat.asks(), ((1, 0), (1, 2)))
        seat.decide((9, 9)), seat.decide(None), seat.decide(None)
        self.assertEqual(seat.asks(), ((1, 0), (1, 2), (2, 0), (2, 2), (3, 0), (3, 2)))
        seat.hears((2, 0, None)), seat.hears((1, 2, (0, 9)))
        self.assertEqual(seat.asks(), ((1, 0), (2, 2), (3, 0), (3, 2)))
        seat.hears((5, 2, None))
        self.assertEqual(seat.asks(), ((1, 0), (2, 2), (3, 0), (3, 2), (4, 0), (4, 2), (5, 0)))
        self.assertEqual(Seat(0, 1, 20, 20).asks(), ())
        lone = Seat(0, 1, 20, 20)
        lone.tick(), lone.decide((1, 1))
        self.assertEqual(lone.asks(), ())

    def test_equality(self):
        def made(number=0, many=2, lead=3, every=2, turns=0, own_burns=(), letters=()):
            seat = Seat(number, many, lead, every)
            for _ in range(turns):
                seat.tick()
            for burn in own_burns:
                seat.decide(burn)
            for letter in letters:
                seat.hears(letter)
            return seat

        self.assertTrue(made() == made() and not made() != made())
        kinds = [made(), made(1), made(many=3), made(lead=4), made(every=3), made(turns=1), made(own_burns=[None]), made(own_burns=[(0, 3)]),
                 made(letters=[(1, 1, None)]), made(letters=[(1, 1, (0, 3))]), made(turns=1, letters=[(1, 1, (0, 3))]),
                 made(turns=2, letters=[(1, 1, (0, 3)), (2, 1, (0, 6))]), made(turns=2, letters=[(2, 1, (0, 6)), (1, 1, (0, 3))])]
        for at, one in enumerate(kinds):
            for other in range(len(kinds)):
                # The last two know and show alike; they went back otherwise, but the counts are the same.
                self.assertEqual(one == kinds[other], at == other or {at, other} == {11, 12})
            for value in (None, 0, str(one), seating.parts(one), Seat):
                self.assertFalse(one == value)
        late, early = made(turns=1, letters=[(1, 1, (0, 3))]), made(letters=[(1, 1, (0, 3))])
        early.tick()
        self.assertEqual(seating.parts(late)[:9], seating.parts(early)[:9])
        self.assertFalse(late == early)
        counts = [Seat.read(f"0 1 0 1 0 {backs} {rerun}") for backs in range(2) for rerun in range(2)]
        for at, one in enumerate(counts):
            self.assertEqual([one == other for other in counts], [at == other for other in range(4)])

    def test_what_is_told_stays(self):
        seat, letter = Seat(0, 2, 3, 2), [1, 1, [0, 3]]
        seat.hears(letter)
        known, kept, shown = seat.known, seat.kept, seat.shown
        parts = own.parts(shown)
        letter[2][0] = 7
        burn = [0, 6]
        seat.decide(burn)
        burn[0] = 8
        seat.tick(), seat.tick(), seat.tick()
        self.assertEqual((known, len(kept), own.parts(shown)), (((1, 1, (0, 3)),), 1, parts))
        self.assertEqual(seat.known, ((1, 0, (0, 6)), (1, 1, (0, 3))))
        before = copy.deepcopy(seat)
        Seat.read(str(seat)).tick()
        self.assertTrue(seat == before)


class WrongInputs(Compared):
    def raises(self, kind, part, ask, *values):
        with self.assertRaises(kind) as caught:
            ask(*values)
        self.assertEqual(caught.exception.part, part, values)

    def test_made_of(self):
        for value in (*own.STRANGE, -1, 12, [0], (0,)):
            self.raises(BadNumber, "number", Seat, value, None, None, None)
        for value in (*own.STRANGE, 0, 13, -1, [1]):
            self.raises(BadNumber, "many", Seat, 11, value, None, None)
        for value in (*own.STRANGE, -1, 21, [1]):
            self.raises(BadNumber, "lead", Seat, 11, 2, value, None)
        for value in (*own.STRANGE, 0, 21, -1, [1]):
            self.raises(BadNumber, "every", Seat, 11, 2, 3, value)
        for number, many in ((1, 1), (2, 2), (11, 11), (11, 1)):
            self.raises(Misfit, "number", Seat, number, many, 0, 1)
        seat = Seat(every=20, lead=0, many=12, number=11)
        self.assertEqual((seat.number, seat.many, seat.lead, seat.every), (11, 12, 0, 20))

    def test_letters(self):
        seat = Seat(0, 2, 3, 2)
        seat.decide((0, 3)), seat.hears((2, 1, None))
        for value in seating.NO_LETTERS:
            self.refuse(seat, BadBurns, {"part": "letter"}, seat.hears, value)
        for turn, number, burn in ((60, 11, None), (1, 2, (0, 3))):
            self.refuse(seat, Misfit, {"part": "seat"}, seat.hears, (turn, number, burn))
        for turn, burn in ((2, None), (60, (0, 3))):
            self.refuse(seat, Misfit, {"part": "turn"}, seat.hears, (turn, 0, burn))
        self.refuse(seat, Twice, {"value": (1, 0)}, seat.hears, [1, 0, None])
        self.refuse(seat, Twice, {"value": (2, 1)}, seat.hears, [2, 1, [0, 3]])
        self.assertIs(seat.hears(letter=[1, 0, [0, 3]]), False)
        self.assertIs(type(self.value_of(seat)), tuple)

    def value_of(self, seat):
        with self.assertRaises(Twice) as caught:
            seat.hears([1, 0, None])
        return caught.exception.value

    def test_burns(self):
        seat = Seat(0, 2, 3, 2)
        for value in own.NO_SQUARES:
            if value is not None:
                self.refuse(seat, BadSquare, {"part": "burn"}, seat.decide, value)
        self.assertEqual(seat.decide(burn=None), (1, 0, None))
        self.assertEqual(seat.decide([4, -10 ** 70]), (2, 0, (4, -10 ** 70)))


class ShortTime(Compared):
    def test_idle_games_of_60_turns(self):
        # Each seat hears all letters of the others late, the last ones first.
        for number, every in ((0, 1), (11, 20)):
            seat = Seat(number, 12, 20, every)
            slowest = 0
            for lot in range(3):
                for _ in range(20):
                    seat.tick()
                for turn in range(20 * lot + 20, 20 * lot, -1):
                    for other in range(12):
                        began = time.process_time()
                        if other == number:
                            seat.decide(seating.idle(seat.own, number) if turn % 10 == 0 else None)
                        else:
                            seat.hears((turn, other, seating.idle(turn, other) if turn % 20 == other else None))
                        slowest = max(slowest, time.process_time() - began)
            self.assertEqual((seat.settled, seat.shown.turn, len(seat.known)), (60, 60, 720))
            began = time.process_time()
            self.assertEqual(Seat.read(str(seat)), seat)
            self.assertEqual(seat.sure(), seat.shown)
            self.assertLess(max(slowest, time.process_time() - began), 3)

    def test_burnt_games(self):
        source = own.seeded(943)
        seat = Seat(1, 2, 20, 20)
        for _ in range(12):
            seat.tick()
        began = time.process_time()
        for turn in range(12, 0, -1):
            seat.hears((turn, 0, (source.randint(0, 60), source.randint(-60, 60))))
        for _ in range(12):
            seat.decide((source.randint(0, 20), source.randint(-20, 60)))
        self.assertLess(time.process_time() - began, 12)
        self.assertEqual(Seat.read(str(seat)), seat)


if __name__ == "__main__":
    unittest.main()
