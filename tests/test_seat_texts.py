"""Texts of seats: written, read back, and those in which an item cannot stand."""

import unittest

import own
import seating
from nevercaught.errors import BadText
from nevercaught.seats import Seat

WHOLE = "1 2 3 2 2 2 4 / 1 0 0 3 / 1 1 - / 2 1 0 6"
LONG = "1" * 61
NO_INTEGERS = ("", "x", "+5", "05", "00", "-0", "--1", "1-", "1.0", "1,", "/", "-", LONG, "-" + LONG, "\u0661", "1\n", "\t1", "0x1", "1_0", "None")


class Texts(unittest.TestCase):
    def test_written_and_read_back(self):
        source = own.seeded(951)
        for game in range(40):
            many, turns = source.choice(((1, 8), (2, 6), (3, 4), (12, 2)))
            number, lead, every = source.randrange(many), source.choice((0, 3, 20)), source.choice((1, 2, 20))
            burns = seating.table(source, many, turns)
            seat, book = Seat(number, many, lead, every), seating.Book(number, many, lead, every)
            for _ in range(source.randint(0, 4 * turns)):
                kind = source.random()
                turn, other = source.choice(list(burns))
                if kind < 0.3 and book.may_tick() and seat.shown.turn < turns:
                    seat.tick()
                    book.turn += 1
                elif kind < 0.5 and seat.own <= turns:
                    book.decide(burns[seat.own, number])
                    seat.decide(burns[seat.own, number])
                elif other != number:
                    seat.hears((turn, other, burns[turn, other]))
                    book.learn(turn, other, burns[turn, other])
            text = book.text()
            self.assertEqual(str(seat), text)
            again = Seat.read(text)
            self.assertTrue(again == seat)
            self.assertEqual((str(again), seating.parts(again), type(again)), (text, seating.parts(seat), Seat))

    def test_by_hand(self):
        seat = Seat.read(text=WHOLE)
        self.assertEqual(seating.parts(seat)[:5], (1, 2, 3, 2, 1))
        self.assertEqual((seat.own, seat.backs, seat.rerun, seat.asks(), seat.shown.square), (3, 2, 4, ((2, 0),), (0, 7)))
        # Backs and rerun are what the text tells, whether or not any game goes so.
        for backs, rerun in ((0, 9), (9, 0), (10 ** 60 - 1, 10 ** 59)):
            text = f"0 1 0 1 0 {backs} {rerun}"
            self.assertEqual((Seat.read(text).backs, Seat.read(text).rerun, str(Seat.read(text))), (backs, rerun, text))
        for text in ("0 1 0 1 0 0 0", "11 12 20 20 20 0 0", "0 1 20 1 20 0 0", "0 2 0 1 0 0 0 / 60 1 -",
                     "0 2 0 1 0 0 0 / 1 0 " + "9" * 60 + " -" + "9" * 60):
            self.assertEqual(str(Seat.read(text)), text)

    def test_bounds_that_are_met(self):
        letters = " ".join(f"/ {turn} 0 -" for turn in range(1, 61))
        seat = Seat.read("0 1 0 20 60 0 0 " + letters)
        self.assertEqual((seat.settled, seat.shown.turn, seat.own, len(seat.kept)), (60, 60, 61, 4))
        self.assertEqual(Seat.read("0 1 20 20 60 0 0 " + " ".join(letters.split(" ")[:160])).settled, 40)


class WrongTexts(unittest.TestCase):
    def fails(self, text, item):
        with self.assertRaises(BadText) as caught:
            Seat.read(text)
        self.assertEqual((caught.exception.line, caught.exception.item), (0, item), text)

    def bent(self, at, item, text=WHOLE):
        items = text.split(" ")
        items[at] = item
        return " ".join(items)

    def test_no_strings(self):
        for value in (*own.STRANGE, 0, 5, ["0"], (), Seat(0, 1, 0, 1), WHOLE.split(" ")):
            if not isinstance(value, str):
                self.fails(value, 0)

    def test_items_that_are_no_integers(self):
        for at, plain in enumerate(WHOLE.split(" ")):
            for item in NO_INTEGERS:
                if plain == "/" and item != "/" or plain not in "/-":
                    # Where a burn stands, the sign for None may stand, and what is behind it is one item too many.
                    if item == "-" and at in (10, 19):
                        self.fails(self.bent(at, item), at + 1)
                    else:
                        self.fails(self.bent(at, item), at)
                        self.fails(self.bent(at, item) + " x", at)
        for item in NO_INTEGERS:
            if item != "-":
                self.fails(self.bent(15, item), 15)

    def test_bounds(self):
        for at, most, least in ((0, 11, 0), (1, 12, 1), (2, 20, 0), (3, 20, 1), (4, 60, 0)):
            for number in (least - 1, most + 1, -5, 10 ** 59):
                self.fails(self.bent(at, str(number)), at)
                self.fails(self.bent(at, str(number)) + " x", at)
        for at in (5, 6):
            self.fails(self.bent(at, "-1"), at)
        for turn in ("0", "61", "-1"):
            self.fails(self.bent(8, turn), 8)
            self.fails(self.bent(17, turn), 17)
        for seat in ("12", "-1"):
            self.fails(self.bent(9, seat), 9)
            self.fails(self.bent(18, seat), 18)

    def test_order_of_letters(self):
        head = "0 3 0 1 0 0 0"
        self.fails(head + " / 2 1 - / 1 2 -", 12)
        self.fails(head + " / 2 1 - / 1 x", 12)
        self.fails(head + " / 2 1 - / 2 1 -", 13)
        self.fails(head + " / 2 1 - / 2 0 -", 13)
        self.fails(head + " / 2 1 - / 2 0 x", 13)
        self.fails(head + " / 2 11 - / 2 11 -", 13)
        self.fails(head + " / 5 1 0 3 / 5 2 0 3 / 4 1 -", 18)
        self.fails(head + " / 60 1 - / 59 1 -", 12)
        for tail in (" / 2 1 - / 3 1 -", " / 2 1 - / 2 2 -", " / 2 2 - / 3 1 -", " / 1 1 7 -7 / 60 2 -"):
            self.assertEqual(str(Seat.read(head + tail)), head + tail)

    def test_missing_items(self):
        items = WHOLE.split(" ")
        letter_ends = (7, 12, 16, 21)
        for many in range(1, len(items)):
            if many not in letter_ends:
                self.fails(" ".join(items[:many]), many)
        self.fails("", 0)
        self.assertEqual(str(Seat.read(" ".join(items[:16]))), " ".join(items[:16]))

    def test_an_item_too_many(self):
        self.fails(WHOLE + " 1", 21)
        self.fails(WHOLE + " -", 21)
        self.fails(WHOLE + " /", 22)
        self.fails(WHOLE + " / 3 0 - -", 25)
        self.fails("0 1 0 1 0 0 0 0", 7)
        self.fails("0 1 0 1 0 0 0 -", 7)

    def test_blanks(self):
        self.fails(" " + WHOLE, 0)
        self.fails(WHOLE + " ", 21)
        self.fails(WHOLE.replace("4 /", "4  /"), 7)
        self.fails(WHOLE.replace("0 3", "0  3"), 11)
        self.fails("0 1 0 1 0 0 0 ", 7)

    def test_what_only_the_whole_shows(self):
        for text in ("2 2 0 1 0 0 0", "11 1 0 1 0 0 0", "2 2 20 1 0 0 0 / 1 0 - / 1 1 0 3",
                     "0 2 0 1 0 0 0 / 1 2 -", "0 2 0 1 0 0 0 / 1 11 - / 2 1 -",
                     "0 1 0 1 1 0 0", "0 1 1 1 2 0 0", "0 1 1 1 60 0 0", "0 1 20 1 21 0 0", "0 2 0 1 1 0 0 / 1 0 -", "0 2 1 1 3 0 0 / 1 0 - / 1 1 - / 2 1 -",
                     "0 2 0 1 0 0 0 / 2 0 -", "0 2 0 1 0 0 0 / 1 1 - / 3 0 5 5", "0 2 0 1 0 0 0 / 1 0 - / 3 0 -"):
            last = len(text.split(" ")) - 1
            self.fails(text, last)
            # Each item may stand; what comes first and cannot is told ahead of the whole.
            self.fails(text + " x", last + 1)
            self.fails(text + " / 1 x", last + (3 if text.count("/") == 0 or text.split(" / ")[-1][0] == "1" else 2))
        self.assertEqual(Seat.read("0 2 1 1 2 0 0 / 1 0 - / 1 1 - / 2 1 -").shown.turn, 2)
        self.assertEqual(Seat.read("0 2 0 1 0 0 0 / 1 0 - / 2 0 -").own, 3)


if __name__ == "__main__":
    unittest.main()
