"""The whole program: one game of seats, as a story, a film, a text, at a desk and in flight; and who goes by lesser walls."""

import time
import unittest

import games
import hooks
import own
import seating
from nevercaught.blames import Blamed, blame, caught_at, wall_run
from nevercaught.best import best_for, cheapest_cost
from nevercaught.boards import fits
from nevercaught.burners import Asked, Told, match
from nevercaught.check_best import shows_best
from nevercaught.check_blames import shows_blame
from nevercaught.check_flights import shows_flight
from nevercaught.check_seats import parted_at, shows_story, story_of
from nevercaught.desks import Desk
from nevercaught.films import Film, parting
from nevercaught.flights import boards_of, flight, where
from nevercaught.lines import whole_line
from nevercaught.pictures import picture
from nevercaught.roads import House
from nevercaught.seats import Seat
from nevercaught.stands import Stand, flown, start
from nevercaught.walls import cost_of, is_better, length_of


def play(source, many, turns, lead, every):
    """A house whose seats have decided so many turns; letters come late, twice, or are lost; and the burns."""
    house, burns = House(many, lead, every), seating.table(source, many, turns)
    for turn in range(1, turns + 1):
        for number in source.sample(range(many), many):
            house.decide(number, burns[turn, number])
        for _ in range(source.randint(0, 3 * many)):
            if not len(house.road):
                break
            deed = source.choice((house.bring, house.bring, house.bring, house.twice, house.lose))
            deed(source.randrange(len(house.road)))
        for seat in house.seats:
            while seat.shown.turn < min(turn, seat.settled + lead) and source.random() < 0.8:
                house.tick(seat.number)
        if source.random() < 0.3:
            house.ask(source.randrange(many))
    return house, [burns[turn, number] for turn in range(1, turns + 1) for number in range(many)]


def lines_of(name, film):
    """The lines by which a desk keeps a game of whole turns."""
    yield f"open {name}" if film.pace == 1 else f"open {name} {film.pace}"
    for turn in range(film.turns):
        row = film.burns[turn * film.pace:(turn + 1) * film.pace]
        yield f"burn {name} " + " / ".join("-" if burn is None else f"{burn[0]} {burn[1]}" for burn in row)


class OneGame(unittest.TestCase):
    def test_all_tell_one_game(self):
        source = own.seeded(1011)
        for game in range(24):
            many, turns = source.choice(((1, 8), (2, 8), (3, 6), (4, 4), (12, 2)))
            house, burns = play(source, many, turns, source.choice((1, 3, 20)), source.choice((1, 2, 5)))
            before = story_of(house.seats)
            self.assertTrue(before)
            self.assertEqual(before.burns, tuple(burns))
            self.assertTrue(all(settled <= turns for settled in before.settled))
            self.none_shows_more_than_it_knows(house, burns, many)
            self.assertEqual(house.settle(), (turns,) * many)
            for number in range(many):
                while house.seats[number].shown.turn < turns:
                    house.tick(number)
            told = flight(burns, many)
            self.seats_show(house, told, burns)
            self.film_shows(Film(story_of(house.seats).burns, many), told)
            self.desk_shows(source, Film(burns, many), told)
            self.runner_is_free(burns, told, many)

    def none_shows_more_than_it_knows(self, house, burns, many):
        true = flight(burns, many).stands
        for seat in house.seats:
            last = min(seat.settled, seat.shown.turn)
            self.assertEqual(seat.sure(), true[last])
            self.assertEqual([stand for stand in seat.kept if stand.turn <= last], [stand for stand in true[:last + 1] if stand.turn % seat.every == 0])
            self.assertEqual(Seat.read(str(seat)), seat)

    def seats_show(self, house, told, burns):
        story = story_of(house.seats)
        self.assertEqual((story.burns, story.settled), (tuple(burns), (len(told.walls),) * len(house.seats)))
        self.assertIs(shows_story(house.seats, story), True)
        for seat in house.seats:
            self.assertEqual((seat.shown, seat.sure(), seat.kept), (told.stands[-1], told.stands[-1], told.stands[::seat.every]))
            self.assertIsNone(parted_at(seat, house.seats[0]))
            self.assertEqual(Stand.read(str(seat.shown)), seat.shown)

    def film_shows(self, film, told):
        again = Film.read(str(film))
        self.assertTrue(again == film)
        self.assertIsNone(parting(film, again))
        self.assertEqual([again.stand(turn) for turn in range(again.turns + 1)], list(told.stands))
        self.assertEqual(film.frames((-3, -2), (6, 20)), tuple(picture(stand, (-3, -2), (6, 20)) for stand in told.stands))
        for turn in range(film.turns + 1):
            self.assertEqual(film.cut(turn).stand(turn), told.stands[turn])
            self.assertIsNone(parting(film, film.cut(turn)))

    def desk_shows(self, source, film, told):
        desk = Desk()
        for turn, line in enumerate(lines_of("one", film)):
            answer = desk.tell(line)
            if turn:
                x, y = told.stands[turn].square
                self.assertEqual(answer, f"{x} {y}")
            if source.random() < 0.3:
                desk.back()
                desk.again()
        self.assertTrue(desk.kept("one") == film)
        self.assertEqual(desk.tell("film one"), str(film))
        for turn, stand in enumerate(told.stands):
            self.assertEqual(desk.tell(f"show one {turn} -2 -2 5 9"), " ".join(picture(stand, (-2, -2), (5, 9))))
            self.assertEqual(desk.tell(f"where one {turn}"), f"{stand.square[0]} {stand.square[1]}")
        again = Desk.read(desk.done())
        self.assertTrue(again.kept("one") == film and again.done() == tuple(lines_of("one", film)))

    def runner_is_free(self, burns, told, pace):
        self.assertEqual(where(burns, pace), tuple(stand.square for stand in told.stands))
        for stand in told.stands:
            self.assertNotIn(stand.square, stand.burnt)
        self.assertIs(shows_flight(burns, told, pace), True)
        self.assertEqual(match(Told(burns), len(told.walls), pace), told)
        walls = [best.squares for best in told.walls]
        self.assertEqual(wall_run(burns, walls, pace), told.stands)
        self.assertIsNone(caught_at(burns, walls, pace))
        self.assertIsNone(blame(burns, walls, pace))
        for turn, board in enumerate(boards_of(burns, pace)):
            self.assertIs(shows_best(board, told.walls[turn]), True)
            self.assertEqual(cost_of(walls[turn], board.burnt), cheapest_cost(board))


class NeverCaught(unittest.TestCase):
    def test_best_walls_are_never_to_blame(self):
        source, tried = own.seeded(1012), 0
        for pace, burns in games.rows(1012, 26, 12):
            told, boards = flight(burns, pace), boards_of(burns, pace)
            walls = [best.squares for best in told.walls]
            last = 0
            for turn, board in enumerate(boards, 1):
                others = [*walls, own.random_wall(source), (), board.held, board.burnt, sorted({*board.held, *board.burnt})]
                for other in others:
                    other = tuple(sorted(square for square in other if square[0] >= 0 and not own.is_passed(board, square)))
                    self.assertIs(shows_blame(burns, walls, Blamed(turn, other), pace), False)
                    if fits(board, other) and other != walls[turn - 1]:
                        self.assertIs(is_better(walls[turn - 1], other, board.burnt), True)
                        tried += 1
                cost = cost_of(walls[turn - 1], board.burnt)
                self.assertLessEqual(cost, last)
                last = cost
        self.assertGreater(tried, 100)

    def test_whoever_is_caught_is_told_a_better_wall(self):
        for burns, walls, pace in hooks.traps(1013, 120):
            turn = caught_at(burns, walls, pace)
            if turn is None:
                self.assertIsNone(blame(burns, walls, pace))
                continue
            told = blame(burns, walls, pace)
            self.assertIs(shows_blame(burns, walls, told, pace), True)
            own_wall = wall_run(burns, walls, pace)[told.turn].wall
            burnt = wall_run(burns, walls, pace)[told.turn].burnt
            self.assertIs(is_better(told.squares, own_wall, burnt), True)
            self.assertNotIn(flight(burns, pace).stands[turn].square, flight(burns, pace).stands[turn].burnt)

    def test_what_was_run_along_stays(self):
        for pace, burns in games.rows(1014, 20, 12):
            stands = flight(burns, pace).stands
            steps = []
            for one, other in zip(stands, stands[1:]):
                steps += own.walk(other.wall, one.corner, one.heading, 2 * pace)
                line = whole_line(other.wall)
                # The line goes on straight up above the wall.
                known = [step for step in steps if step in line]
                self.assertEqual(known, [step for step in line if step in steps])
                self.assertTrue(all(step in line or step[0][1] > line[-1][0][1] for step in steps))
                self.assertLessEqual(length_of(other.wall), 2 * len([s for s in other.burnt if s in other.wall]))
            for stand in stands:
                x, y = stand.square
                self.assertTrue(0 <= x <= y)

    def test_nobody_looks_at_later_burns(self):
        source = own.seeded(1015)
        for pace, burns in games.rows(1015, 13, 12):
            film = Film(burns, pace)
            for turns in range(film.turns + 1):
                tail = [(source.randint(0, 6), source.randint(0, 12)) for _ in range(pace)]
                longer = Film(burns[:turns * pace] + tail, pace) if len(burns) >= turns * pace else film
                self.assertEqual(longer.stand(turns), film.stand(turns))

    def test_an_asked_burner_and_a_seat_play_one_game(self):
        # One seat burns what lies two steps ahead of what it shows itself.
        seat = Seat(0, 1, 1, 3)
        told = match(Asked(lambda stand: [(stand.square[0], stand.square[1] + 2)]), 10)
        for turn in range(10):
            seat.decide((seat.shown.square[0], seat.shown.square[1] + 2))
            self.assertEqual(seat.tick(), told.stands[turn + 1])
        self.assertEqual(story_of([seat]).burns, tuple((x, y + 2) for x, y in (stand.square for stand in told.stands[:-1])))


class Again(unittest.TestCase):
    def test_equal_arguments_equal_answers(self):
        for pace, burns in games.rows(1016, 10, 12):
            lists = [burn and list(burn) for burn in burns]
            self.assertEqual(flight(burns, pace), flight(tuple(lists), pace))
            for board in boards_of(burns, pace):
                self.assertEqual(best_for(board), best_for(board))

    def test_seats_from_each_others_texts(self):
        source = own.seeded(1017)
        house, burns = play(source, 2, 8, 3, 2)
        texts = [str(seat) for seat in house.seats]
        told = [Seat.read(text) for text in texts]
        house.settle()
        self.assertEqual([str(seat) for seat in told], texts)
        for seat in told:
            for pair in seat.asks():
                other = house.seats[pair[1]]
                seat.hears(next(letter for letter in other.known if letter[:2] == pair))
        self.assertEqual([seat.settled for seat in told], [8, 8])
        while told[0].shown.turn < 8:
            told[0].tick()
        self.assertEqual(told[0].shown, flight(burns, 2).stands[-1])

    def test_a_short_time(self):
        source = own.seeded(1018)
        burns = [(source.randint(0, 60), source.randint(-60, 60)) for _ in range(24)]
        for many in (1, 2, 12):
            house, began = House(many, 20, 5), time.process_time()
            for turn in range(24 // many):
                for number in range(many):
                    house.decide(number, burns[turn * many + number])
                    if house.seats[number].shown.turn < house.seats[number].settled + 20:
                        house.tick(number)
            house.settle()
            story = story_of(house.seats)
            self.assertIs(shows_story(house.seats, story), True)
            self.assertIs(shows_flight(story.burns, flight(story.burns, many), many), True)
            self.assertEqual(Desk.read(list(lines_of("one", Film(story.burns, many)))).kept("one").turns, 24 // many)
            self.assertLess(time.process_time() - began, 10)
        stand = start()
        for burn in burns:
            stand = flown(stand, [burn])
        self.assertEqual(stand, flight(burns).stands[-1])


if __name__ == "__main__":
    unittest.main()
