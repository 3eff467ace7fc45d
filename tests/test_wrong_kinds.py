"""All that the interface lists, with values of other kinds: just the errors of the package, with the parameter's name."""

import importlib
import inspect
import unittest

import own
import test_interface
from nevercaught import errors
from nevercaught.best import Best
from nevercaught.boards import Board
from nevercaught.burners import Ahead, Asked, Block, Burner, Looker, Ring, Told
from nevercaught.climbs import Climb, begun
from nevercaught.desks import Desk
from nevercaught.errors import (BadBoard, BadBurns, BadClimb, BadNumber, BadSeat, BadSquare, BadSquares, BadStand, BadText, FlightError,
                                NoName)
from nevercaught.films import Film
from nevercaught.papers import Denial, Paper
from nevercaught.roads import House, Road
from nevercaught.seats import Seat
from nevercaught.stands import Stand, start
from nevercaught.strips import Strip

WRONG = (*own.STRANGE, own.Sore(), (), [], 0, 10 ** 70, -1, (1,), [[]], [1, 2, 3], start(), Board([], [], []), begun(1), Seat(0, 1, 0, 1),
         Strip(1, 1, 1), Film([]), Ahead(1), Paper("x"), Denial("x"), Best(1, [], []), Burner, int, ValueError("x"))
NUMBER, SQUARE, SQUARES, BURNS, BURN = "number", "square", "squares", "burns", "burn"
# A value that may be passed for each name of a parameter, and what it is.
GOOD = {
    "wall": ((), SQUARES), "one": ((), SQUARES), "other": ((), SQUARES), "values": ((), SQUARES), "held": ((), SQUARES), "passed": ((), SQUARES),
    "burnt": ((), SQUARES), "walls": ((), "walls"), "tries": ([(0, 1)], "tries"),
    "square": ((0, 4), SQUARE), "goal": ((0, 6), SQUARE), "corner": ((0, 1), SQUARE), "heading": ((0, 1), "heading"), "low": ((0, 0), SQUARE),
    "high": ((1, 1), SQUARE), "middle": ((0, 5), SQUARE), "burn": ((0, 3), BURN),
    "burns": ((), BURNS), "row": ((), BURNS), "letter": ((1, 1, None), "letter"), "burner": (Ahead(1), "burner"), "flights": ((), "flights"),
    "board": (Board([], [], []), "board"), "strip": (Strip(1, 1, 1), "strip"), "stand": (start(), "stand"), "climb": (begun(1), "climb"),
    "seats": ([Seat(0, 1, 0, 1)], "seats"),
    "pace": (1, NUMBER), "turns": (1, NUMBER), "many": (2, NUMBER), "column": (0, NUMBER), "size": (1, NUMBER), "wide": (1, NUMBER),
    "deep": (0, NUMBER), "power": (1, NUMBER), "far": (1, NUMBER), "steps": (1, NUMBER), "number": (0, NUMBER), "lead": (1, NUMBER),
    "every": (1, NUMBER), "turn": (0, NUMBER), "index": (0, NUMBER), "text": ("", "text"), "name": ("one", "name"), "line": ("open one", "text"),
}
KINDS = {NUMBER: BadNumber, SQUARE: BadSquare, "heading": BadSquare, BURN: BadSquare, SQUARES: BadSquares, "walls": BadSquares,
         "tries": BadSquares, "flights": BadSquares, BURNS: BadBurns, "letter": BadBurns, "burner": BadBurns, "film": BadBurns,
         "board": BadBoard, "strip": BadBoard, "stand": BadStand, "climb": BadClimb, "seats": BadSeat, "seat": BadSeat}
# Where a name means something else than elsewhere.
OTHERWISE = {
    ("pockets", "shut_in", "one"): (0, NUMBER), ("pockets", "shut_in", "other"): (2, NUMBER),
    ("pockets", "closed_at", "one"): (0, NUMBER), ("pockets", "closed_at", "other"): (2, NUMBER),
    ("walls", "clipped", "low"): (0, "any number"), ("walls", "clipped", "high"): (0, "any number"), ("walls", "clipped", "column"): (0, "any number"),
    ("films", "parting", "one"): (Film([]), "film"), ("films", "parting", "other"): (Film([]), "film"),
    ("check_seats", "parted_at", "one"): (Seat(0, 1, 0, 1), "seat"), ("check_seats", "parted_at", "other"): (Seat(0, 1, 0, 1), "seat"),
}
FREE = {"checks": ("is_integer", "is_within", "is_square", "are_squares"), "papers": ("fixed",)}


def is_empty(value):
    return type(value) in (list, tuple) and len(value) == 0


def may_be(kind, value, name):
    """Whether a value of WRONG is right for what is wanted there."""
    if isinstance(value, own.Sore):
        return False
    if kind in (SQUARES, BURNS, "walls", "flights"):
        return is_empty(value) or kind == "walls" and value == [[]]
    if kind == BURN:
        return value is None
    if kind == "any number":
        return type(value) is int
    if kind == NUMBER:
        return type(value) is int and (value == 0 and name in ("lead", "deep", "column", "number", "index", "turn", "many", "one", "turns")
                                       or value > 60 and name in ("turns", "turn"))
    return type(value) is {"board": Board, "strip": Strip, "stand": Stand, "climb": Climb, "burner": Ahead, "film": Film, "seat": Seat}.get(kind)


def methods():
    """The methods of the interface, each of an object, with what is wanted of their parameters."""
    house = House(2, 1, 1)
    house.decide(0, None)
    desk = Desk()
    yield Board([], [], []).is_passed, {"square": SQUARE}
    for burner in (Told([]), Ahead(1), Ring((0, 5), 1), Block((0, 0), 1), Looker([(0, 1)], 0), Asked(len)):
        yield burner.burns, {"stand": "stand"}
    yield Seat(0, 2, 1, 1).decide, {"burn": BURN}
    yield Seat(0, 2, 1, 1).hears, {"letter": "letter"}
    yield Road().put, {"number": NUMBER, "letter": "letter"}
    yield Road().take, {"index": "no number"}
    yield house.decide, {"number": NUMBER, "burn": BURN}
    for ask in (house.tick, house.ask):
        yield ask, {"number": NUMBER}
    for ask in (house.bring, house.twice, house.lose):
        yield ask, {"index": "no number"}
    film = Film([])
    yield film.cut, {"turns": "zero"}
    yield film.stand, {"turn": NUMBER}
    yield film.joined, {"other": "film"}
    yield film.frames, {"low": SQUARE, "high": SQUARE}
    yield desk.kept, {"name": "name"}
    yield desk.tell, {"line": "text"}
    for found in (Stand, Seat, Film):
        yield found.read, {"text": "text"}


class WrongKinds(unittest.TestCase):
    def raises(self, kind, fields, ask, values):
        with self.assertRaises(FlightError, msg=(ask, values)) as caught:
            ask(**values)
        self.assertIsInstance(caught.exception, ValueError)
        self.assertIs(type(caught.exception), kind, (ask, values))
        for field, value in fields.items():
            self.assertIs(getattr(caught.exception, field), value, (ask, values))

    def wanted(self, module, name, parameter):
        return OTHERWISE.get((module, name, parameter), GOOD.get(parameter))

    def test_functions_and_classes(self):
        count = 0
        for table in (test_interface.FUNCTIONS, test_interface.CLASSES):
            for module, name, _ in test_interface.listed(table):
                short = module.__name__.split(".")[-1]
                found = getattr(module, name)
                if name in FREE.get(short, ()) or inspect.isclass(found) and issubclass(found, (Paper, Asked)) or name == "Burner":
                    continue
                names = [parameter for parameter in inspect.signature(found).parameters if parameter != "value"]
                good = {parameter: self.wanted(short, name, parameter)[0] for parameter in names}
                if "value" in inspect.signature(found).parameters:
                    good["value"] = None
                for at, parameter in enumerate(names):
                    count += self.one(short, name, found, good, names[at:], parameter)
        self.assertGreater(count, 3000)

    def one(self, module, name, found, good, behind, parameter):
        """Wrong values for one parameter, and for all behind it."""
        kind = self.wanted(module, name, parameter)[1]
        error = BadStand if name == "Stand" else KINDS.get(kind, BadNumber)
        count = 0
        for value in WRONG:
            if may_be(kind, value, parameter):
                continue
            for others in ({}, {other: own.Sore() for other in behind}):
                values = {**good, **others, parameter: value}
                if kind == "text":
                    self.raises(BadText, {"line": 0}, found, values)
                else:
                    self.raises(error, {"part": parameter}, found, values)
                count += 1
        return count

    def test_methods(self):
        for ask, kinds in methods():
            names = list(kinds)
            for at, name in enumerate(names):
                kind = kinds[name]
                for value in WRONG:
                    numbers = {"zero": (0,), NUMBER: (0,), "no number": (0,)}.get(kind, ())
                    if may_be(kind, value, name) or type(value) is int and value in numbers or kind == "text" and isinstance(value, str):
                        continue
                    values = {other: GOOD.get(other, (None,))[0] for other in names[:at]}
                    values.update({other: own.Sore() for other in names[at:]})
                    values[name] = value
                    if kind == "text":
                        self.raises(BadText, {"line": 0, "item": 0}, ask, values)
                    elif kind == "name":
                        self.raises(NoName, {"value": value}, ask, values)
                    else:
                        self.raises(KINDS.get(kind, BadNumber), {"part": name}, ask, values)

    def test_any_value_may_be_shown(self):
        source = {"burns": [], "walls": [], "board": Board([], [], []), "strip": Strip(1, 1, 1), "column": 0, "climb": begun(1), "power": 1,
                  "seats": [Seat(0, 1, 0, 1)], "pace": 1}
        for module, name, _ in test_interface.listed(test_interface.FUNCTIONS):
            if name.startswith("shows_"):
                found = getattr(module, name)
                papers = [getattr(importlib.import_module(other.__module__), other.__name__) for other in
                          [getattr(place, row) for place, row, _ in test_interface.listed(test_interface.CLASSES)]
                          if issubclass(other, Paper) and other not in (Paper, Denial)]
                values = list(WRONG)
                for paper in papers:
                    many = len(inspect.signature(paper).parameters)
                    values += [paper(*[value] * many) for value in WRONG if not is_empty(value)]
                given = {key: source[key] for key in inspect.signature(found).parameters if key != "value"}
                for value in values:
                    self.assertIs(found(**given, value=value), False, (name, value))

    def test_predicates_take_any_value(self):
        for name in FREE["checks"]:
            found = getattr(importlib.import_module("nevercaught.checks"), name)
            for value in WRONG:
                told = found(value, None, None) if name == "is_within" else found(value)
                self.assertIn(told, (True, False))
                self.assertIs(type(told), bool)

    def test_all_errors_are_those_of_the_package(self):
        found = {name for name, value in vars(errors).items() if inspect.isclass(value)}
        self.assertEqual(found, {"FlightError", "BadNumber", "BadSquare", "BadSquares", "BadBurns", "BadBoard", "BadStand", "BadClimb", "BadSeat",
                                 "BadPaper", "Misfit", "NoName", "Twice", "TooMany", "Nothing", "BadText", "BadLine"})


if __name__ == "__main__":
    unittest.main()
