"""Roads and houses, against lists of the tests' own."""

import copy
import time
import unittest

import own
import seating
from nevercaught.errors import BadBurns, BadNumber, BadSquare, Misfit, TooMany
from nevercaught.flights import flight
from nevercaught.roads import House, Road
from nevercaught.seats import Seat

NO_INDEXES = (*own.STRANGE, -1, [0], (0,), 10 ** 30)


class Roads(unittest.TestCase):
    def test_against_a_list(self):
        source = own.seeded(961)
        for _ in range(20):
            road, rows = Road(), []
            self.assertEqual((road.letters, len(road)), ((), 0))
            for _ in range(60):
                if rows and source.random() < 0.45:
                    at = source.randrange(len(rows))
                    self.assertEqual(road.take(at), rows.pop(at))
                else:
                    burn = source.choice((None, (0, 3), (-7, 10 ** 70)))
                    pair = (source.randint(0, 11), (source.randint(1, 60), source.randint(0, 11), burn))
                    rows.append(pair)
                    letter = pair[1] if source.random() < 0.5 else [*pair[1][:2], burn and list(burn)]
                    self.assertEqual(road.put(pair[0], letter), len(rows))
                self.assertEqual((road.letters, len(road), type(road.letters)), (tuple(rows), len(rows), tuple))

    def test_alike_letters(self):
        road = Road()
        self.assertEqual([road.put(number=3, letter=(1, 0, None)) for _ in range(3)], [1, 2, 3])
        self.assertEqual((road.take(index=1), len(road)), ((3, (1, 0, None)), 2))
        self.assertEqual(Road().put(11, (60, 11, (0, 0))), 1)

    def test_errors(self):
        road = Road()
        road.put(0, (1, 0, None))
        kept = road.letters

        def raises(kind, part, ask, *values):
            with self.assertRaises(kind) as caught:
                ask(*values)
            self.assertEqual((caught.exception.part, road.letters), (part, kept), values)

        for value in (*own.STRANGE, -1, 12, [0]):
            raises(BadNumber, "number", road.put, value, None)
        for value in seating.NO_LETTERS:
            raises(BadBurns, "letter", road.put, 0, value)
        for value in (*NO_INDEXES, 1, 2):
            raises(BadNumber, "index", road.take, value)
        road.take(0)
        kept = ()
        for value in (0, -1, None):
            raises(BadNumber, "index", road.take, value)

    def test_what_is_told_stays(self):
        road, letter = Road(), [1, 0, [0, 3]]
        road.put(0, letter)
        told = road.letters
        letter[2][1] = 9
        road.put(1, letter)
        self.assertEqual((told, road.letters[1]), (((0, (1, 0, (0, 3))),), (1, (1, 0, (0, 9)))))


class Model:
    """A house of the tests' own: books, and a list of letters on their way."""

    def __init__(self, many, lead, every):
        self.books = [seating.Book(number, many, lead, every) for number in range(many)]
        self.road = []

    def decide(self, number, burn):
        book = self.books[number]
        letter = (book.own, number, burn)
        book.decide(burn)
        self.road += [(other, letter) for other in range(len(self.books)) if other != number]
        return letter

    def hear(self, pair):
        number, letter = pair
        return self.books[number].learn(*letter)

    def ask(self, number):
        pairs = [(turn, seat) for turn, seat in self.books[number].asks() if turn < self.books[seat].own]
        self.road += [(number, (turn, seat, self.books[seat].burns[turn, seat])) for turn, seat in pairs]
        return len(pairs)

    def settle(self):
        while True:
            while self.road:
                self.hear(self.road.pop(0))
            if not sum(self.ask(number) for number in range(len(self.books))):
                return tuple(book.settled() for book in self.books)


class Houses(unittest.TestCase):
    def same(self, house, model):
        self.assertEqual([seating.parts(seat) for seat in house.seats], [book.parts() for book in model.books])
        self.assertEqual(house.road.letters, tuple(model.road))

    def one(self, source, house, model, burns, turns):
        """One deed at the house."""
        many = len(model.books)
        number, kind = source.randrange(many), source.random()
        book = model.books[number]
        if kind < 0.3 and book.own <= turns:
            burn = burns[book.own, number]
            self.assertEqual(house.decide(number, burn), model.decide(number, burn))
        elif kind < 0.55 and book.turn < turns:
            if book.may_tick():
                book.turn += 1
                self.assertIs(house.tick(number), house.seats[number].shown)
            else:
                with self.assertRaises(Misfit) as caught:
                    house.tick(number)
                self.assertEqual(caught.exception.part, "lead")
        elif kind < 0.6:
            self.assertEqual(house.ask(number), model.ask(number))
        elif model.road:
            at = source.choice((0, source.randrange(len(model.road))))
            if kind < 0.85:
                self.assertIs(house.bring(at), model.hear(model.road.pop(at)))
            elif kind < 0.92:
                self.assertIs(house.twice(at), model.hear(model.road[at]))
            else:
                self.assertEqual(house.lose(at), model.road.pop(at))

    def test_against_lists(self):
        source = own.seeded(962)
        for game in range(30):
            many, turns = source.choice(((1, 6), (2, 6), (3, 4), (12, 2)))
            lead, every = source.choice((0, 2, 20)), source.choice((1, 2, 20))
            burns = seating.table(source, many, turns)
            house, model = House(many, lead, every), Model(many, lead, every)
            for step in range(12 * many if many < 12 else 40):
                self.one(source, house, model, burns, turns)
                if many < 4 or step % 8 == 0:
                    self.same(house, model)
                if source.random() < 0.03:
                    self.assertEqual(house.settle(), model.settle())
                    self.same(house, model)
            self.same(house, model)
            self.assertEqual(house.settle(), model.settle())
            self.same(house, model)
            self.all_in_one_game(house, burns, many, turns)

    def all_in_one_game(self, house, burns, many, turns):
        """When all have decided all turns, and all letters have come, all show one game."""
        for number in range(many):
            while house.seats[number].own <= turns:
                house.decide(number, burns[house.seats[number].own, number])
        while len(house.road):
            house.lose(0)
        for number, seat in enumerate(house.seats):
            while seat.shown.turn < min(turns, seat.settled + seat.lead):
                house.tick(number)
        self.assertEqual(house.settle(), (turns,) * many)
        true = flight([burns[turn, seat] for turn in range(1, turns + 1) for seat in range(many)], many).stands
        for seat in house.seats:
            last = seat.shown.turn
            self.assertEqual((seat.shown, seat.sure(), seat.asks()), (true[last], true[last], ()))
            self.assertEqual(seat.kept, true[:last + 1:seat.every])

    def test_late_twice_lost_and_asked_for(self):
        source = own.seeded(963)
        for lead in (2, 20):
            house, burns, turns = House(3, lead, 2), seating.table(source, 3, 5), 5
            for turn in range(1, turns + 1):
                for number in range(3):
                    house.decide(number, burns[turn, number])
                for number in range(3):
                    seat = house.seats[number]
                    while seat.shown.turn < min(turn, seat.settled + lead):
                        house.tick(number)
                while len(house.road) > 3:
                    at = source.randrange(len(house.road))
                    source.choice((house.bring, house.lose, house.bring))(at)
                house.twice(source.randrange(len(house.road)))
            self.assertEqual(house.settle(), (5, 5, 5))
            for number in range(3):
                while house.seats[number].shown.turn < turns:
                    house.tick(number)
            true = flight([burns[turn, seat] for turn in range(1, 6) for seat in range(3)], 3).stands
            for seat in house.seats:
                self.assertEqual((seat.shown, seat.sure(), seat.kept), (true[5], true[5], true[::2]))

    def test_settle_without_letters_on_the_road(self):
        house = House(2, 3, 2)
        house.decide(0, (0, 3)), house.decide(1, None)
        house.lose(0), house.lose(0)
        # Each knows of its own burn of turn 1, so each asks for the one of the other.
        self.assertEqual(house.settle(), (1, 1))
        self.assertEqual(House(3, 0, 1).settle(), (0, 0, 0))

    def test_nobody_asks_beyond_what_it_shows_or_knows(self):
        house = House(2, 3, 2)
        house.decide(0, (0, 3)), house.decide(0, None)
        house.lose(0), house.lose(0)
        self.assertEqual((house.ask(1), house.settle()), (0, (0, 0)))
        house.tick(1)
        self.assertEqual((house.ask(1), house.road.letters), (1, ((1, (1, 0, (0, 3))),)))
        house.tick(1)
        self.assertEqual((house.ask(1), house.road.letters[1:]), (2, ((1, (1, 0, (0, 3))), (1, (2, 0, None)))))
        self.assertEqual([house.bring(0), house.bring(0), house.bring(0)], [True, False, True])
        self.assertEqual((house.ask(1), house.seats[1].backs), (0, 1))

    def test_one_seat_and_twelve(self):
        house = House(1, 0, 1)
        self.assertEqual((house.decide(0, (0, 2)), len(house.road), house.tick(0).square, house.settle()), ((1, 0, (0, 2)), 0, (0, 1), (1,)))
        house = House(every=20, lead=20, many=12)
        self.assertEqual([seat.number for seat in house.seats], list(range(12)))
        self.assertTrue(all(type(seat) is Seat and (seat.many, seat.lead, seat.every) == (12, 20, 20) for seat in house.seats))
        self.assertEqual((type(house.seats), type(house.road)), (tuple, Road))
        letter = house.decide(burn=[0, 3], number=5)
        self.assertEqual(house.road.letters, tuple((number, letter) for number in range(12) if number != 5))


class WrongInputs(unittest.TestCase):
    def setUp(self):
        self.house = House(2, 1, 2)
        self.house.decide(0, (0, 3)), self.house.decide(1, None), self.house.tick(1)

    def raises(self, kind, fields, ask, *values):
        before = copy.deepcopy([seating.parts(seat) for seat in self.house.seats]), self.house.road.letters
        with self.assertRaises(kind) as caught:
            ask(*values)
        self.assertEqual(vars(caught.exception), fields, values)
        self.assertEqual(([seating.parts(seat) for seat in self.house.seats], self.house.road.letters), before)

    def test_made_of(self):
        for value in (*own.STRANGE, 0, 13, -1, [1]):
            self.raises(BadNumber, {"part": "many"}, House, value, None, None)
        for value in (*own.STRANGE, -1, 21, [1]):
            self.raises(BadNumber, {"part": "lead"}, House, 2, value, None)
        for value in (*own.STRANGE, 0, 21, [1]):
            self.raises(BadNumber, {"part": "every"}, House, 2, 0, value)

    def test_numbers_and_indexes(self):
        for value in (*NO_INDEXES, 2, 12):
            self.raises(BadNumber, {"part": "number"}, self.house.decide, value, 5)
            self.raises(BadNumber, {"part": "number"}, self.house.tick, value)
            self.raises(BadNumber, {"part": "number"}, self.house.ask, value)
            self.raises(BadNumber, {"part": "index"}, self.house.bring, value)
            self.raises(BadNumber, {"part": "index"}, self.house.twice, value)
            self.raises(BadNumber, {"part": "index"}, self.house.lose, value)

    def test_deeds(self):
        for value in own.NO_SQUARES:
            if value is not None:
                self.raises(BadSquare, {"part": "burn"}, self.house.decide, 1, value)
        self.raises(Misfit, {"part": "lead"}, self.house.tick, 1)
        while self.house.seats[0].own <= 60:
            self.house.decide(0, None)
        self.raises(TooMany, {"what": "turns", "most": 60}, self.house.decide, 0, None)
        self.raises(BadSquare, {"part": "burn"}, self.house.decide, 0, 7)

    def test_an_empty_road(self):
        self.house.lose(0), self.house.lose(0)
        for value in (0, 1, -1):
            self.raises(BadNumber, {"part": "index"}, self.house.bring, value)
            self.raises(BadNumber, {"part": "index"}, self.house.lose, value)

    def test_a_short_time(self):
        house = House(12, 20, 1)
        for number in range(12):
            for _ in range(20):
                house.tick(number)
        for turn in range(1, 61):
            for number in range(12):
                house.decide(number, seating.idle(turn, number) if turn <= 20 else None)
        began = time.process_time()
        self.assertEqual(house.settle(), (60,) * 12)
        self.assertLess(time.process_time() - began, 6)
        self.assertEqual({seat.backs for seat in house.seats}, {240})
        self.assertTrue(all(seat.shown == house.seats[0].shown for seat in house.seats))


if __name__ == "__main__":
    unittest.main()
