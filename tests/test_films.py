"""Films, against flights of their burns, and their texts."""

import copy
import time
import unittest

import games
import own
from nevercaught.errors import BadBurns, BadNumber, BadSquare, BadText, Misfit, TooMany
from nevercaught.films import Film, parting
from nevercaught.flights import flight, where
from nevercaught.pictures import picture

GAMES = games.rows(991, 26, 12)
LONG = "1" * 61
NO_ITEMS = ("", "x", "+5", "05", "00", "-0", "--1", "1-", "1.0", LONG, "-" + LONG, "\u0661", "1\n", "0x1", "1_0", "None", "burns", "pace")
NO_FILMS = (*own.STRANGE, 0, (), [], [(0, 3)], "burns", Film, own.Sore(), flight([]))


def text_of(burns, pace):
    items = [] if pace == 1 else ["pace", str(pace)]
    items.append("burns")
    for at, burn in enumerate(burns):
        items += ["/"] * (at > 0) + (["-"] if burn is None else [str(burn[0]), str(burn[1])])
    return " ".join(items)


class Films(unittest.TestCase):
    def test_attributes(self):
        for pace, burns in GAMES:
            film = Film([burn and list(burn) for burn in burns], pace)
            self.assertEqual((film.burns, film.pace, film.turns), (tuple(burns), pace, -(-len(burns) // pace)))
            self.assertTrue(film == Film(pace=pace, burns=tuple(burns)))
        for pace in range(1, 13):
            for many in range(26):
                self.assertEqual(Film([None] * many, pace).turns, len(flight([None] * many, pace).walls))
        self.assertEqual((Film([]).burns, Film([]).pace, Film([]).turns), ((), 1, 0))

    def test_equality(self):
        kinds = [Film([]), Film([], 2), Film([], 12), Film([None]), Film([None], 2), Film([None, None], 2), Film([None, None]),
                 Film([(0, 3)]), Film([(0, 3)], 2), Film([(0, 3), None], 2), Film([(3, 0)]), Film([(0, 3), None])]
        for at, one in enumerate(kinds):
            for other in range(len(kinds)):
                self.assertEqual(one == kinds[other], at == other)
                self.assertEqual(one != kinds[other], at != other)
            for value in (None, 0, str(one), one.burns, (one.burns, one.pace), flight(one.burns, one.pace)):
                self.assertFalse(one == value)
        self.assertTrue(Film([[0, 3]]) == Film([(0, 3)]))

    def test_stands(self):
        for pace, burns in GAMES:
            film, stands = Film(burns, pace), flight(burns, pace).stands
            for turn, stand in enumerate(stands):
                self.assertEqual(film.stand(turn), stand)
            self.assertEqual(film.stand(turn=film.turns), stands[-1])
            whole = Film(list(burns) + [None] * (-len(burns) % pace), pace)
            self.assertEqual((whole.turns, whole.stand(whole.turns)), (film.turns, stands[-1]))

    def test_frames(self):
        for pace, burns in GAMES[:12]:
            told = Film(burns, pace).frames((-2, -1), [5, 9])
            self.assertEqual(told, tuple(picture(stand, (-2, -1), (5, 9)) for stand in flight(burns, pace).stands))
            self.assertIs(type(told), tuple)
        self.assertEqual(Film([]).frames(high=(1, 1), low=(-1, -1)), (("|..", "|@.", "|*."),))

    def test_cut(self):
        for pace, burns in GAMES:
            film = Film(burns, pace)
            for turns in range(film.turns + 1):
                cut = film.cut(turns)
                self.assertEqual((type(cut), cut.burns, cut.pace), (Film, tuple(burns[:turns * pace]), pace))
                self.assertEqual(cut.turns, turns)
                self.assertEqual(cut.stand(turns), film.stand(turns))
            self.assertTrue(film.cut(turns=film.turns) == film)
        self.assertEqual(Film([(0, 3), None, (0, 5)], 2).cut(2).burns, ((0, 3), None, (0, 5)))

    def test_joined(self):
        for pace in (1, 2, 3, 5, 12):
            for many in range(0, 14):
                one, other = Film([(0, k) for k in range(many)], pace), Film([None, (3, 3)], pace)
                both = one.joined(other)
                row = one.burns + (None,) * (one.turns * pace - many) + other.burns
                self.assertEqual((type(both), both.burns, both.pace, both.turns), (Film, row, pace, one.turns + other.turns))
                self.assertTrue(one.joined(other=Film([], pace)) == Film(row[:one.turns * pace], pace))
        for pace, burns in GAMES[:10]:
            film = Film(burns, pace)
            for turns in range(film.turns + 1):
                tail = Film(burns[turns * pace:], pace)
                self.assertTrue(film.cut(turns).joined(tail) == film)

    def test_parting(self):
        source, found = own.seeded(992), set()
        for pace, burns in GAMES:
            one = Film(burns, pace)
            for _ in range(6):
                row = list(burns)
                at = source.randrange(len(row))
                row[at] = source.choice((None, (0, 2 * pace * (at // pace + 1)), row[at], (30, 30)))
                other = Film(row[:source.randint(1, len(row))], source.choice((pace, pace, 1, 2)))
                pairs = zip(where(one.burns, one.pace), where(other.burns, other.pace))
                turns = [turn for turn, (here, there) in enumerate(pairs) if here != there]
                told = turns[0] if turns else None
                self.assertEqual(parting(one, other), told)
                self.assertEqual(parting(other=one, one=other), told)
                found.add(told)
        self.assertGreater(len(found), 4)
        self.assertIsNone(parting(Film([]), Film([(0, 1)])))
        self.assertEqual(parting(Film([None]), Film([None], 2)), 1)
        # What the last turn lacks counts as None, and burns that change nothing part nobody.
        self.assertIsNone(parting(Film([None], 2), Film([None, None], 2)))
        self.assertIsNone(parting(Film([None]), Film([(-5, 5)])))

    def test_what_is_told_stays(self):
        row = [[0, 3], None]
        film = Film(row)
        row[0][1] = 9
        row.append((1, 1))
        kept = copy.deepcopy(film)
        film.cut(1), film.joined(film), film.stand(2), film.frames((0, 0), (1, 1)), parting(film, film)
        self.assertEqual((film.burns, film.turns), (((0, 3), None), 2))
        self.assertTrue(film == kept)


class Texts(unittest.TestCase):
    def test_written_and_read_back(self):
        for pace, burns in (*GAMES, (1, []), (2, []), (12, []), (1, [None]), (3, [None, None]), (1, [(-1, 10 ** 60 - 1), (1 - 10 ** 60, 0)])):
            film, text = Film(burns, pace), text_of(burns, pace)
            self.assertEqual(str(film), text)
            again = Film.read(text)
            self.assertTrue(again == film)
            self.assertEqual((str(again), again.burns, again.pace, type(again)), (text, film.burns, pace, Film))
        self.assertEqual(Film.read(text="burns").burns, ())
        for pace in range(2, 13):
            self.assertEqual(Film.read(f"pace {pace} burns -").pace, pace)


class WrongTexts(unittest.TestCase):
    def fails(self, text, item):
        with self.assertRaises(BadText) as caught:
            Film.read(text)
        self.assertEqual((caught.exception.line, caught.exception.item), (0, item), text)

    def test_no_strings(self):
        for value in (*NO_FILMS, Film([]), ["burns"], b"burns"):
            if not isinstance(value, str):
                self.fails(value, 0)

    def test_each_item(self):
        for text in ("burns 0 5 / - / -3 7", "pace 2 burns 0 5 / - / -3 7"):
            items = text.split(" ")
            for at, plain in enumerate(items):
                for item in (*NO_ITEMS, "/", "-"):
                    bent = [*items[:at], item, *items[at + 1:]]
                    if item == plain:
                        continue
                    if item == "-" and items[at - 1] in ("/", "burns"):
                        # The sign for None may stand here, but no second integer behind it.
                        self.fails(" ".join(bent), at + 1)
                    elif at == 0 and item == "burns":
                        self.fails(" ".join(bent), 2)
                    elif at == 0 and item == "pace":
                        self.fails(" ".join(bent), 1)
                    else:
                        self.fails(" ".join(bent), at)
                        self.fails(" ".join([*bent, "x"]), at)

    def test_missing_and_too_many(self):
        items = "pace 2 burns 0 5 / - / -3 7".split(" ")
        for many in (1, 2, 4, 6, 8, 9):
            self.fails(" ".join(items[:many]), many)
        for many in (3, 5, 7, 10):
            self.assertEqual(str(Film.read(" ".join(items[:many]))), " ".join(items[:many]))
        self.fails("", 0)
        self.fails("burns 0 5 /", 4)
        self.fails("burns /", 1)
        self.fails("burns 0 5 7", 3)
        self.fails("burns 0 5 -", 3)
        self.fails("burns - -", 2)
        self.fails("burns burns", 1)
        self.fails("burns pace 2", 1)
        self.fails("pace 2 pace 2 burns", 2)

    def test_pace(self):
        for pace in ("1", "0", "13", "-2", "02", "+2", "x", "", LONG, "-"):
            self.fails(f"pace {pace} burns", 1)
            self.fails(f"pace {pace}", 1)
        self.fails("pace 2 0 5", 2)

    def test_blanks(self):
        self.fails(" burns", 0)
        self.fails("burns ", 1)
        self.fails("burns  -", 1)
        self.fails("burns 0  5", 2)
        self.fails("burns 0 5  / -", 3)
        self.fails("burns - ", 2)
        self.fails("pace  2 burns", 1)


class WrongInputs(unittest.TestCase):
    def raises(self, kind, part, ask, *values):
        with self.assertRaises(kind) as caught:
            ask(*values)
        self.assertEqual(caught.exception.part, part, values)

    def test_made_of(self):
        for value in own.NO_BURNS:
            self.raises(BadBurns, "burns", Film, value, None)
        for value in (*own.STRANGE, 0, 13, -1, [1]):
            self.raises(BadNumber, "pace", Film, [], value)

    def test_turns(self):
        film = Film([(0, 3), (0, 5), None], 2)
        for value in (*own.STRANGE, -1, 3, [1], 10 ** 30):
            self.raises(BadNumber, "turns", film.cut, value)
            self.raises(BadNumber, "turn", film.stand, value)
        self.raises(BadNumber, "turn", Film([]).stand, 1)
        self.raises(BadNumber, "turns", Film([]).cut, 1)

    def test_other_films(self):
        film = Film([(0, 3)])
        for value in NO_FILMS:
            self.raises(BadBurns, "other", film.joined, value)
            self.raises(BadBurns, "one", parting, value, value)
            self.raises(BadBurns, "other", parting, film, value)
        self.raises(Misfit, "pace", film.joined, Film([], 2))
        self.raises(Misfit, "pace", Film([], 12).joined, film)

    def test_frames(self):
        film = Film([(0, 3)])
        for value in own.NO_SQUARES:
            self.raises(BadSquare, "low", film.frames, value, None)
            self.raises(BadSquare, "high", film.frames, (0, 0), value)
        self.raises(Misfit, "box", film.frames, (0, 0), (0, -1))
        with self.assertRaises(TooMany) as caught:
            Film([]).frames((0, 0), (100, 99))
        self.assertEqual((caught.exception.what, caught.exception.most), ("squares", 10000))

    def test_a_short_time(self):
        source = own.seeded(993)
        film = Film([(source.randint(0, 60), source.randint(-60, 60)) for _ in range(24)])
        began = time.process_time()
        self.assertEqual(len(film.frames((-9, -9), (40, 90))), 25)
        self.assertIsNone(parting(film, film))
        self.assertEqual(Film.read(str(film)).stand(24).turn, 24)
        self.assertLess(time.process_time() - began, 6)


if __name__ == "__main__":
    unittest.main()
