"""Desks, against a row of games of the tests' own."""

import copy
import time
import unittest

import own
from nevercaught.desks import Desk
from nevercaught.errors import BadLine, BadText, Misfit, NoName, Nothing, TooMany, Twice
from nevercaught.films import Film
from nevercaught.flights import flight
from nevercaught.pictures import picture

NAMES = ("a", "b2", "one", "z" * 12, "a00000000000")


class Model:
    """A desk of the tests' own: what is kept behind each deed, and the lines of the deeds."""

    def __init__(self):
        self.states = [{}]
        self.lines = []
        self.ahead = []

    @property
    def games(self):
        return self.states[-1]

    def do(self, line, games):
        if games != self.games:
            self.states.append(games)
            self.lines.append(line)
            self.ahead = []

    def back(self):
        self.ahead.append((self.lines.pop(), self.states.pop()))

    def again(self):
        line, games = self.ahead.pop()
        self.lines.append(line)
        self.states.append(games)


def text(burn):
    return "-" if burn is None else f"{burn[0]} {burn[1]}"


def film_text(pace, turns):
    row = " / ".join(text(burn) for turn in turns for burn in turn)
    return " ".join((["pace", str(pace)] if pace > 1 else []) + ["burns"] + ([row] if row else []))


def square_of(pace, turns, turn):
    square = flight([burn for row in turns for burn in row], pace).stands[turn].square
    return f"{square[0]} {square[1]}"


class Random(unittest.TestCase):
    def same(self, desk, model):
        self.assertEqual(desk.names(), tuple(sorted(model.games)))
        self.assertEqual(desk.done(), tuple(model.lines))
        for name, (pace, turns) in model.games.items():
            film = desk.kept(name)
            self.assertEqual((type(film), film.pace, film.burns), (Film, pace, tuple(burn for turn in turns for burn in turn)))
        for name in set(NAMES) - set(model.games):
            with self.assertRaises(NoName) as caught:
                desk.kept(name)
            self.assertEqual(caught.exception.value, name)

    def one(self, source, desk, model):
        """One thing that is told to the desk."""
        kind, name, other = source.randrange(12), source.choice(NAMES), source.choice(NAMES)
        games = dict(model.games)
        if kind == 0:
            pace = source.choice((None, 1, 2, 3, 12))
            line = f"open {name}" if pace is None else f"open {name} {pace}"
            self.tell(desk, model, line, "opened", Twice if name in games else None, {**games, name: (pace or 1, ())})
        elif kind in (1, 2, 3, 4):
            burns = [source.choice((None, (source.randint(-1, 4), source.randint(-1, 9)))) for _ in range(source.randint(1, 3))]
            line = f"burn {name} " + " / ".join(text(burn) for burn in burns)
            if name not in games:
                self.tell(desk, model, line, None, NoName, games)
                return
            pace, turns = games[name]
            if len(burns) > pace or sum(map(len, turns)) >= 12 * pace:
                if len(burns) > pace:
                    self.tell(desk, model, line, None, TooMany, games)
                return
            turns += ((*burns, *[None] * (pace - len(burns))),)
            self.tell(desk, model, line, square_of(pace, turns, len(turns)), None, {**games, name: (pace, turns)})
        elif kind == 5:
            error = Twice if name in games else NoName if other not in games else None
            self.tell(desk, model, f"copy {name} {other}", "copied", error, {**games, name: games.get(other)})
        elif kind == 6:
            turn = source.randint(-1, 5)
            pace, turns = games.get(name, (1, ()))
            error = NoName if name not in games else Misfit if not 0 <= turn <= len(turns) else None
            self.tell(desk, model, f"cut {name} {turn}", "cut", error, {**games, name: (pace, turns[:max(turn, 0)])})
        elif kind in (7, 8):
            self.ask(source, desk, model, name)
        elif kind == 9:
            left = {key: value for key, value in games.items() if key != name}
            self.tell(desk, model, f"drop {name}", "dropped", None if name in games else NoName, left)
        else:
            self.undo(source, desk, model)

    def ask(self, source, desk, model, name):
        """Lines that change nothing."""
        turn = source.randint(-1, 4)
        if name not in model.games:
            for line in (f"film {name}", f"where {name} {turn}", f"show {name} {turn} 0 0 -1 0"):
                self.tell(desk, model, line, None, NoName, model.games)
            return
        pace, turns = model.games[name]
        self.tell(desk, model, f"film {name}", film_text(pace, turns), None, model.games)
        low, high = (source.randint(-3, 2), source.randint(-3, 2)), (source.randint(1, 5), source.randint(1, 9))
        line = f"show {name} {turn} {text(low)} {text(high)}"
        if not 0 <= turn <= len(turns):
            self.tell(desk, model, f"where {name} {turn}", None, Misfit, model.games)
            self.tell(desk, model, line, None, Misfit, model.games)
            return
        self.tell(desk, model, f"where {name} {turn}", square_of(pace, turns, turn), None, model.games)
        stand = flight([burn for row in turns for burn in row], pace).stands[turn]
        rows = None if low[0] > high[0] or low[1] > high[1] else picture(stand, low, high)
        self.tell(desk, model, line, rows and " ".join(rows), None if rows else Misfit, model.games)

    def tell(self, desk, model, line, answer, error, games):
        if error is None:
            self.assertEqual(desk.tell(line), answer, line)
            model.do(line, games)
        else:
            with self.assertRaises(error, msg=line):
                desk.tell(line)

    def undo(self, source, desk, model):
        for _ in range(source.randint(1, 4)):
            if source.random() < 0.5:
                if model.lines:
                    self.assertIsNone(desk.back())
                    model.back()
                else:
                    self.assertRaises(Nothing, desk.back)
            elif model.ahead:
                self.assertIsNone(desk.again())
                model.again()
            else:
                self.assertRaises(Nothing, desk.again)

    def test_against_a_row_of_games(self):
        source = own.seeded(1001)
        for game in range(25):
            desk, model = Desk(), Model()
            self.same(desk, model)
            for _ in range(90):
                self.one(source, desk, model)
                self.same(desk, model)
            again = Desk.read(list(desk.done()))
            self.assertEqual(again.done(), desk.done())
            self.assertEqual([(name, str(again.kept(name))) for name in again.names()],
                             [(name, str(desk.kept(name))) for name in desk.names()])
            while model.lines:
                desk.back()
                model.back()
                self.same(desk, model)
            self.assertRaises(Nothing, desk.back)
            while model.ahead:
                desk.again()
                model.again()
            self.same(desk, model)


class Deeds(unittest.TestCase):
    def made(self, *lines):
        desk = Desk()
        for line in lines:
            desk.tell(line)
        return desk

    def test_what_is_no_deed(self):
        desk = self.made("open one", "burn one 0 5", "burn one 0 3", "cut one 1")
        desk.back()
        for line in ("film one", "where one 2", "where one 0", "show one 2 0 0 1 1", "cut one 2"):
            desk.tell(line)
            self.assertEqual(desk.done(), ("open one", "burn one 0 5", "burn one 0 3"))
        for line in ("open one", "burn one 1 1 / 2 2", "cut one 9", "drop two", "burn", 7):
            with self.assertRaises(ValueError):
                desk.tell(line)
        # Neither questions, lines that change nothing, nor lines that raise hinder what can be done again.
        desk.again()
        self.assertEqual((desk.done()[-1], desk.kept("one").turns), ("cut one 1", 1))
        desk.back()
        desk.tell("burn one -")
        with self.assertRaises(Nothing):
            desk.again()

    def test_dropped_and_opened_again(self):
        desk = self.made("open one", "burn one 0 5", "copy two one", "drop one", "open one 3", "burn one 0 1 / -", "drop two")
        self.assertEqual((str(desk.kept("one")), desk.names()), ("pace 3 burns 0 1 / - / -", ("one",)))
        told = []
        for _ in range(7):
            desk.back()
            told.append([str(desk.kept(name)) for name in desk.names()])
        self.assertEqual(told, [["pace 3 burns 0 1 / - / -", "burns 0 5"], ["pace 3 burns", "burns 0 5"], ["burns 0 5"],
                                ["burns 0 5", "burns 0 5"], ["burns 0 5"], ["burns"], []])
        for _ in range(7):
            desk.again()
        self.assertEqual((str(desk.kept("one")), desk.names()), ("pace 3 burns 0 1 / - / -", ("one",)))
        self.assertEqual(desk.tell("where one 1"), "0 4")

    def test_copies_go_apart(self):
        desk = self.made("open one", "burn one 0 5", "copy two one", "burn one 0 3", "cut two 0", "burn two 1 1", "copy three two")
        self.assertEqual([str(desk.kept(name)) for name in ("one", "two", "three")], ["burns 0 5 / 0 3", "burns 1 1", "burns 1 1"])
        desk.tell("drop two")
        self.assertEqual((str(desk.kept("three")), desk.names()), ("burns 1 1", ("one", "three")))

    def test_whole_turns(self):
        desk = self.made("open q 12", "burn q 0 5 / 0 3", "open p 2", "burn p -", "burn p 0 3 / 0 5")
        self.assertEqual((len(desk.kept("q").burns), desk.kept("q").turns, desk.kept("p").burns), (12, 1, (None, None, (0, 3), (0, 5))))
        self.assertEqual(desk.tell("burn q " + " / ".join(["1 1"] * 12)), desk.tell("where q 2"))
        with self.assertRaises(TooMany) as caught:
            desk.tell("burn q " + " / ".join(["1 1"] * 13))
        self.assertEqual((caught.exception.what, caught.exception.most), ("burns", 12))

    def test_what_is_told_stays(self):
        desk = self.made("open one", "burn one 0 5")
        film, names, done = desk.kept("one"), desk.names(), desk.done()
        self.assertEqual((type(names), type(done)), (tuple, tuple))
        desk.tell("burn one 0 3"), desk.tell("open two")
        self.assertEqual((str(film), names, done), ("burns 0 5", ("one",), ("open one", "burn one 0 5")))

    def test_names_as_strings_are_sorted(self):
        desk = self.made(*[f"open {name}" for name in ("b", "a2", "a10", "aa", "a", "z9")])
        self.assertEqual(desk.names(), ("a", "a10", "a2", "aa", "b", "z9"))

    def test_kept(self):
        desk = self.made("open one")
        self.assertEqual(str(desk.kept(name="one")), "burns")
        for value in (*own.STRANGE, 0, ["one"], ("one",), "ONE", "one ", "two", own.Sore(), b"one", Film([])):
            with self.assertRaises(NoName) as caught:
                desk.kept(value)
            self.assertIs(caught.exception.value, value)

    def test_nothing(self):
        desk = Desk()
        self.assertRaises(Nothing, desk.back)
        self.assertRaises(Nothing, desk.again)
        desk.tell("open one")
        self.assertRaises(Nothing, desk.again)
        desk.back()
        self.assertRaises(Nothing, desk.back)
        desk.again()
        self.assertRaises(Nothing, desk.again)
        self.assertEqual(desk.names(), ("one",))


class Read(unittest.TestCase):
    def test_no_list_of_strings(self):
        for value in (*own.STRANGE, 0, ["open one", 5], [None], ("open one", ["open two"]), "open one", own.Sore(), [own.Sore()], {"open one": 1},
                      Desk(), [b"open one"]):
            with self.assertRaises(BadText) as caught:
                Desk.read(value)
            self.assertEqual((caught.exception.line, caught.exception.item), (0, 0))

    def test_lines(self):
        desk = Desk.read(lines=("open one", "burn one 0 5", "where one 1", "copy two one", "cut two 1", "burn two -"))
        self.assertEqual((type(desk), desk.names(), desk.done()), (Desk, ("one", "two"), ("open one", "burn one 0 5", "copy two one", "burn two -")))
        desk.back()
        self.assertEqual(desk.kept("two").turns, 1)
        self.assertEqual((Desk.read([]).done(), Desk.read(()).names()), ((), ()))

    def test_the_first_line_that_raises(self):
        good = ["open one", "burn one 0 5", "film one"]
        for line, kind, fields in (("", BadText, {"line": 0, "item": 0}), ("burn one 0", BadText, {"line": 0, "item": 3}),
                                   ("open one", Twice, {"value": "one"}), ("drop two", NoName, {"value": "two"}),
                                   ("burn one - / -", TooMany, {"what": "burns", "most": 1}), ("cut one 2", Misfit, {"part": "turn"}),
                                   ("show one 0 0 0 -1 0", Misfit, {"part": "box"}),
                                   ("show one 0 0 0 100 99", TooMany, {"what": "squares", "most": 10000})):
            for at in range(1, 4):
                lines = [*good[:at], line, *good[at:], "also bad"]
                with self.assertRaises(BadLine) as caught:
                    Desk.read(lines)
                self.assertEqual(caught.exception.line, at)
                self.assertEqual((type(caught.exception.error), vars(caught.exception.error)), (kind, fields))
        with self.assertRaises(BadLine) as caught:
            Desk.read(["film one"])
        self.assertEqual((caught.exception.line, type(caught.exception.error), caught.exception.error.value), (0, NoName, "one"))

    def test_what_is_passed_stays(self):
        lines = ["open one", "burn one 0 5"]
        kept = copy.deepcopy(lines)
        Desk.read(lines).tell("open two")
        self.assertEqual(lines, kept)

    def test_a_short_time(self):
        source = own.seeded(1002)
        lines = ["open one"] + [f"burn one {source.randint(0, 60)} {source.randint(-60, 60)}" for _ in range(24)]
        lines += [f"show one {turn} -9 -9 90 90" for turn in range(25)] + ["film one", "copy two one", "cut two 12"]
        began = time.process_time()
        desk = Desk.read(lines)
        self.assertLess(time.process_time() - began, 6)
        self.assertEqual((desk.kept("one").turns, desk.kept("two").turns), (24, 12))


if __name__ == "__main__":
    unittest.main()
