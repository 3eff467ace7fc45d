"""What seats know together, papers that tell it, and where two of them part, against a book of the tests' own."""

import copy
import time
import unittest

import own
import seating
from own import Sore
from nevercaught.check_seats import Split, Story, parted_at, shows_story, story_of
from nevercaught.errors import BadSeat, Misfit
from nevercaught.papers import Denial, Paper
from nevercaught.seats import Seat
from nevercaught.stands import flown, start


class Below(Story):
    """A class below Story."""


class BelowSplit(Split):
    """A class below Split."""


def seats_of(source, many, turns, unlike, gaps=0.15):
    """Seats that know burns of a table; some of them, as often as unlike tells, otherwise than it tells."""
    burns = seating.table(source, many, turns)
    seats = [Seat(number, many, source.choice((0, 3, 20)), source.choice((1, 2, 20))) for number in range(many)]
    for seat in seats:
        for turn in range(1, source.randint(1, turns + 1)):
            seat.decide(burns[turn, seat.number])
        for (turn, other), burn in burns.items():
            if other != seat.number and source.random() > gaps:
                seat.hears((turn, other, (7, turn) if source.random() < unlike else burn))
        for _ in range(source.randint(0, turns)):
            if seat.shown.turn < seat.settled + seat.lead:
                seat.tick()
    return seats


def told_of(seats):
    """The burns that any of the seats know, and the pairs of those that two know unlike."""
    told, splits = {}, set()
    for seat in seats:
        for turn, number, burn in seat.known:
            told.setdefault((turn, number), set()).add(burn)
    splits = sorted(pair for pair, burns in told.items() if len(burns) > 1)
    row, turn = [], 1
    while all((turn, number) in told for number in range(len(seats))):
        row += [min(told[turn, number], key=repr) for number in range(len(seats))]
        turn += 1
    return row, splits


def lots(seed, unlike, many=40):
    source = own.seeded(seed)
    for _ in range(many):
        count, turns = source.choice(((1, 5), (2, 5), (2, 3), (3, 4), (12, 2)))
        yield source, seats_of(source, count, turns, unlike)


class Told(unittest.TestCase):
    def test_stories(self):
        lengths = set()
        for source, seats in lots(971, 0):
            row, splits = told_of(seats)
            self.assertEqual(splits, [])
            told = story_of(seats)
            self.assertEqual((type(told), told.word, bool(told)), (Story, "story", True))
            self.assertEqual(told.parts, (tuple(row), tuple(seat.settled for seat in seats)))
            self.assertEqual((told.burns, told.settled), told.parts)
            self.assertEqual(story_of(seats=tuple(seats)), told)
            self.assertIs(shows_story(seats, told), True)
            self.assertIs(shows_story(value=Story([burn and list(burn) for burn in row], list(told.settled)), seats=tuple(seats)), True)
            self.assertGreaterEqual(len(row), len(seats) * max(told.settled))
            lengths.add(len(row))
        self.assertGreater(len(lengths), 5)

    def test_splits(self):
        counts = set()
        for source, seats in lots(972, 0.15):
            row, splits = told_of(seats)
            counts.add(len(splits))
            told = story_of(seats)
            if not splits:
                self.assertEqual(type(told), Story)
                continue
            self.assertEqual((type(told), told.word, told.parts, bool(told)), (Split, "split", splits[0], False))
            self.assertEqual((told.turn, told.seat), splits[0])
            for turn in range(-1, 8):
                for number in range(-1, 13):
                    self.assertIs(shows_story(seats, Split(turn, number)), (turn, number) in splits)
            self.assertIs(shows_story(seats, Story(row, [seat.settled for seat in seats])), False)
        self.assertGreater(len(counts), 3)

    def test_a_split_behind_the_story(self):
        one, other, third = Seat(0, 3, 3, 1), Seat(1, 3, 3, 1), Seat(2, 3, 3, 1)
        one.hears((9, 1, None)), third.hears((9, 1, (0, 3)))
        self.assertEqual(story_of([one, other, third]), Split(9, 1))
        other.hears((9, 0, (0, 0)))
        self.assertEqual(story_of([one, other, third]).parts, (9, 1))
        other.hears((60, 2, None)), one.hears((60, 2, (0, 0)))
        self.assertIs(shows_story([one, other, third], Split(60, 2)), True)

    def test_edges(self):
        alone = Seat(0, 1, 0, 1)
        self.assertEqual(story_of([alone]), Story([], [0]))
        alone.decide([0, 3])
        self.assertEqual(story_of([alone]), Story([(0, 3)], [1]))
        seats = [Seat(number, 12, 0, 1) for number in range(12)]
        for seat in seats:
            seat.decide(None)
        self.assertEqual(story_of(seats), Story([None] * 12, [0] * 12))
        seats[3].decide((1, 1))
        self.assertEqual(story_of(seats), Story([None] * 12, [0] * 12))


class Bent(unittest.TestCase):
    def test_stories(self):
        for source, seats in lots(973, 0, 15):
            told = story_of(seats)
            burns, settled = told.parts
            values = [Story(burns + (None,), settled), Story(burns + (None,) * len(seats), settled), Story(burns, settled + (0,)),
                      Story(burns, settled[:-1]), Story(settled, burns), Story(burns, None), Story(None, settled), Story(Sore(), settled),
                      Story(burns, Sore()), Story(burns, [Sore()] * len(seats)), Story([Sore()] * len(burns), settled) if burns else None,
                      Story(burns, [bool(number) for number in settled]), Story(burns, [float(number) for number in settled]),
                      Story("", settled), Story({}, settled), Story(burns, {}), Story(burns, settled[0]),
                      Below(burns, settled), Paper("story", burns, settled), Denial("story", burns, settled), told.parts, list(told.parts),
                      *[Split(turn, number) for turn in range(3) for number in range(3)], Split(None, 0), Split(True, 0), Split(Sore(), Sore()),
                      *own.STRANGE, 0, 1, (), [], Sore(), seats, Story]
            for at in range(len(settled)):
                values += [Story(burns, [*settled[:at], settled[at] + change, *settled[at + 1:]]) for change in (1, -1)]
            for at in range(len(burns)):
                for burn in (None, (40, 40), Sore(), "ab", 5, [burns[at]], (1, True)):
                    if burn is not None or burns[at] is not None:
                        values.append(Story([*burns[:at], burn, *burns[at + 1:]], settled))
                values += [Story(burns[:at], settled), Story([*burns[:at], *burns[at + 1:]], settled)]
                if burns[at] is not None:
                    values.append(Story([*burns[:at], [float(x) for x in burns[at]], *burns[at + 1:]], settled))
            for value in values:
                self.assertIs(shows_story(seats, value), False)

    def test_splits(self):
        one, other = Seat(0, 2, 3, 1), Seat(1, 2, 3, 1)
        one.decide((0, 3)), other.hears((1, 0, None))
        seats = [one, other]
        self.assertIs(shows_story(seats, Split(1, 0)), True)
        for value in (Split(True, 0), Split(1, False), Split(1.0, 0), Split("1", "0"), Split(None, None), Split(Sore(), 0), Split(1, Sore()),
                      Split([1], 0), Split({}, 0), Split((1, 0), None), Split(1, 1), Split(0, 1), BelowSplit(1, 0), Denial("split", 1, 0),
                      Paper("split", 1, 0), (1, 0), Story([], [0, 0]), Sore(), *own.STRANGE):
            self.assertIs(shows_story(seats, value), False)

    def test_lists_within(self):
        one = Seat(0, 1, 3, 1)
        one.decide((0, 3))
        told = story_of([one])
        told.burns, told.settled = [[0, 3]], [1]
        self.assertIs(shows_story([one], told), True)

    def test_papers_keep_what_they_are_given(self):
        told, split = Story(settled=[1, [2]], burns="a"), Split(seat=[3], turn=None)
        self.assertEqual((told.burns, told.settled, told.parts, bool(told)), ("a", (1, (2,)), ("a", (1, (2,))), True))
        self.assertEqual((split.turn, split.seat, split.parts, bool(split)), (None, (3,), (None, (3,)), False))


class Parted(unittest.TestCase):
    def shown(self, seat):
        """The stands of the game that a seat shows, as far as it shows it."""
        burns = {(turn, number): burn for turn, number, burn in seat.known}
        stands = [start(seat.many)]
        for turn in range(1, seat.shown.turn + 1):
            stands.append(flown(stands[-1], [burns.get((turn, number)) for number in range(seat.many)]))
        return stands

    def test_any_two(self):
        found = {}
        for unlike in (0, 0.1, 0.3):
            for source, seats in lots(974, unlike, 25):
                for one in seats[:4]:
                    for other in seats[-4:]:
                        pairs = zip(self.shown(one), self.shown(other))
                        turns = [turn for turn, (here, there) in enumerate(pairs) if here != there]
                        told = turns[0] if turns else None
                        self.assertEqual(parted_at(one, other), told)
                        self.assertEqual(parted_at(other=one, one=other), told)
                        found[told] = found.get(told, 0) + 1
        self.assertGreater(len(found), 3)

    def test_what_counts(self):
        def seat(number, *letters, turns=3):
            made = Seat(number, 2, 20, 2)
            for _ in range(turns):
                made.tick()
            for letter in letters:
                made.hears(letter)
            return made

        self.assertIsNone(parted_at(seat(0), seat(1)))
        self.assertIsNone(parted_at(seat(0), seat(0, (1, 1, None))))
        self.assertEqual(parted_at(seat(0), seat(0, (1, 1, (-9, -9)))), 1)
        self.assertEqual(parted_at(seat(0), seat(0, (3, 1, (-9, -9)))), 3)
        self.assertIsNone(parted_at(seat(0), seat(0, (4, 1, (-9, -9)))))
        self.assertIsNone(parted_at(seat(0, turns=2), seat(0, (3, 1, (-9, -9)))))
        self.assertIsNone(parted_at(seat(0, turns=0), seat(0, (1, 1, (-9, -9)))))
        # Its own square is not burnt, and what is burnt twice is burnt once.
        self.assertIsNone(parted_at(seat(0), seat(0, (2, 1, (0, 4)))))
        self.assertIsNone(parted_at(seat(0, (1, 1, (5, 5))), seat(0, (1, 1, (5, 5)), (2, 1, (5, 5)))))
        self.assertEqual(parted_at(seat(0, (1, 1, (5, 5))), seat(0, (2, 1, (5, 5)))), 1)

    def test_settled_turns_never_part(self):
        for source, seats in lots(975, 0, 20):
            for one in seats[:4]:
                for other in seats[-4:]:
                    told = parted_at(one, other)
                    if told is not None:
                        self.assertGreater(told, min(one.settled, other.settled))


class WrongInputs(unittest.TestCase):
    def raises(self, kind, part, ask, *values):
        with self.assertRaises(kind) as caught:
            ask(*values)
        self.assertEqual(caught.exception.part, part)

    def test_seats(self):
        def made(*pairs):
            return [Seat(number, many, 0, 1) for number, many in pairs]

        values = [*own.STRANGE, 0, 1, (), [], Sore(), Seat(0, 1, 0, 1), made((0, 2)), made((1, 2)), made((1, 2), (0, 2)), made((0, 2), (0, 2)),
                  made((0, 2), (1, 3)), made((0, 3), (1, 3)), made((0, 1), (0, 1)), made((0, 2), (1, 2), (0, 2)), made((0, 1), (1, 2)),
                  made((0, 2)) + [None], [None, None], [str(seat) for seat in made((0, 2), (1, 2))], {0: made((0, 1))[0]},
                  iter(made((0, 1))), made((0, 1)) + [Sore()], [made((0, 1))]]
        for value in values:
            self.raises(BadSeat, "seats", story_of, value)
            self.raises(BadSeat, "seats", shows_story, value, None)

    def test_two_seats(self):
        seat = Seat(0, 2, 0, 1)
        for value in (*own.STRANGE, 0, 1, (), Sore(), str(seat), [seat], Seat):
            self.raises(BadSeat, "one", parted_at, value, value)
            self.raises(BadSeat, "other", parted_at, seat, value)
        self.raises(Misfit, "many", parted_at, seat, Seat(0, 3, 0, 1))

    def test_nothing_passed_is_changed(self):
        source, seats = next(lots(976, 0))
        kept = copy.deepcopy(seats)
        told = story_of(seats)
        shows_story(seats, told)
        parted_at(seats[0], seats[-1])
        self.assertTrue(all(one == other for one, other in zip(seats, kept)))
        self.assertEqual([str(seat) for seat in seats], [str(seat) for seat in kept])
        seats[0].hears((60, 1, (3, 3))) if len(seats) > 1 else seats[0].decide(None)
        self.assertEqual(told, story_of(kept))

    def test_a_short_time(self):
        seats = []
        for number in range(12):
            head = f"{number} 12 20 20 60 0 0"
            letters = [f"/ {turn} {seat} {x} {y}" for turn in range(1, 61) for seat in range(12) for x, y in [seating.idle(turn, seat)]]
            seats.append(Seat.read(" ".join([head, *letters])))
        began = time.process_time()
        told = story_of(seats)
        self.assertIs(shows_story(seats, told), True)
        self.assertIsNone(parted_at(seats[0], seats[11]))
        self.assertLess(time.process_time() - began, 4)
        self.assertEqual((len(told.burns), told.settled), (720, (60,) * 12))
        self.assertEqual(seats[0].shown.square, (0, 24 * 60))


if __name__ == "__main__":
    unittest.main()
