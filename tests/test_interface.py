"""The names, the parameters and the places of what the interface lists."""

import importlib
import inspect
import unittest

from nevercaught.climbs import begun
from nevercaught.films import Film
from nevercaught.papers import Denial, Paper
from nevercaught.roads import House, Road
from nevercaught.seats import Seat
from nevercaught.stands import start
from nevercaught.strips import Strip

FUNCTIONS = {
    "checks": ("is_integer(value)", "is_within(value, least, most)", "is_square(value)", "are_squares(value)",
               "squares_of(values)", "around(square)"),
    "papers": ("fixed(value)",),
    "walls": ("length_of(wall)", "burnt_in(wall, burnt)", "cost_of(wall, burnt)", "is_better(one, other, burnt)",
              "united(one, other)", "shared(one, other)", "clipped(wall, column, low, high)", "wall_text(wall)",
              "wall_read(text)"),
    "parts": ("parts_of(wall)", "rooted(wall)", "holes_of(wall)", "filled(wall)"),
    "lines": ("beside(corner, heading)", "next_step(wall, corner, heading)", "step_back(wall, corner, heading)",
              "steps_on(wall, corner, heading, many)", "whole_line(wall)"),
    "boards": ("fits(board, wall)", "box_of(board)"),
    "best": ("best_for(board)", "cheapest_cost(board)"),
    "check_best": ("shows_best(board, value)",),
    "stands": ("start(pace=1)", "flown(stand, burns)", "way_of(stand)"),
    "flights": ("flight(burns, pace=1)", "where(burns, pace=1)", "boards_of(burns, pace=1)"),
    "check_flights": ("shows_flight(burns, value, pace=1)",),
    "pockets": ("meetings_of(wall)", "shut_in(wall, one, other)", "closed_at(wall, one, other)"),
    "blames": ("wall_run(burns, walls, pace=1)", "costs_of(burns, walls, pace=1)", "rises_of(burns, walls, pace=1)",
               "left_out(burns, walls, pace=1)", "first_passed(burns, walls, square, pace=1)", "caught_at(burns, walls, pace=1)",
               "blame(burns, walls, pace=1)"),
    "check_blames": ("shows_blame(burns, walls, value, pace=1)",),
    "burners": ("match(burner, turns, pace=1)",),
    "strips": ("may_fly(strip, burnt, square)", "strip_burn(strip, burnt, square)", "strip_game(strip, column, flights)",
               "passage(strip, column)"),
    "check_strips": ("shows_passage(strip, column, value)",),
    "climbers": ("combs_for(power)", "height_for(power)", "reach_of(power, square)", "turns_for(power, square, goal)"),
    "climbs": ("begun(power)", "moved(climb, turns, square)", "burn_of(climb)", "due_of(climb)", "is_burnt(climb, square)",
               "is_caught(climb)"),
    "check_climbs": ("judged(climb)", "shows_judged(climb, value)", "shows_climb(power, value)"),
    "check_seats": ("story_of(seats)", "shows_story(seats, value)", "parted_at(one, other)"),
    "pictures": ("picture(stand, low, high)",),
    "films": ("parting(one, other)",),
}
CLASSES = {
    "papers": ("Paper(word, *parts)", "Denial(word, *parts)"),
    "boards": ("Board(held, passed, burnt)",),
    "best": ("Best(squares, right, up)",),
    "stands": ("Stand(pace, turn, square, corner, heading, wall, passed, burnt)",),
    "flights": ("Flight(stands, walls)",),
    "blames": ("Blamed(turn, squares)",),
    "burners": ("Burner()", "Told(row)", "Ahead(steps)", "Ring(middle, size)", "Block(corner, wide)", "Looker(tries, deep)",
                "Asked(ask)"),
    "strips": ("Strip(wide, power, far)", "Through(flights)", "Shut(turns)"),
    "check_climbs": ("Caught(origins, lasted, square)", "Free(square)"),
    "seats": ("Seat(number, many, lead, every)",),
    "roads": ("Road()", "House(many, lead, every)"),
    "check_seats": ("Story(burns, settled)", "Split(turn, seat)"),
    "films": ("Film(burns, pace=1)",),
    "desks": ("Desk()",),
}
METHODS = {
    ("papers", "Paper"): ("__eq__",),
    ("papers", "Denial"): ("__eq__",),
    ("boards", "Board"): ("__eq__", "is_passed"),
    ("stands", "Stand"): ("__eq__", "__str__", "read"),
    ("burners", "Told"): ("burns",),
    ("burners", "Ahead"): ("burns",),
    ("burners", "Ring"): ("burns",),
    ("burners", "Block"): ("burns",),
    ("burners", "Looker"): ("burns",),
    ("burners", "Asked"): ("burns",),
    ("strips", "Strip"): ("__eq__",),
    ("climbs", "Climb"): ("__eq__",),
    ("seats", "Seat"): ("__eq__", "__str__", "read", "decide", "hears", "tick", "asks", "sure"),
    ("roads", "Road"): ("__len__", "put", "take"),
    ("roads", "House"): ("decide", "tick", "bring", "twice", "lose", "ask", "settle"),
    ("films", "Film"): ("__eq__", "__str__", "read", "cut", "joined", "stand", "frames"),
    ("desks", "Desk"): ("tell", "names", "kept", "back", "again", "done", "read"),
}
# What each method takes, beside its own object; nothing where nothing is told, and what a class takes otherwise.
TAKEN = {
    "is_passed": "square",
    "burns": "stand",
    "decide": "burn",
    "hears": "letter",
    "put": "number, letter",
    "take": "index",
    "bring": "index",
    "twice": "index",
    "lose": "index",
    "ask": "number",
    "cut": "turns",
    "joined": "other",
    "stand": "turn",
    "frames": "low, high",
    "tell": "line",
    "kept": "name",
    "read": "text",
    "__eq__": "other",
}
TAKEN_BY = {("House", "decide"): "number, burn", ("House", "tick"): "number", ("Desk", "read"): "lines"}
PAPERS = ("Paper", "Denial", "Best", "Flight", "Blamed", "Through", "Shut", "Caught", "Free", "Story",
          "Split")
DENIALS = ("Denial", "Shut", "Free", "Split")

ATTRIBUTES = (
    (begun(1), "power turn square origins lasted"),
    (Seat(0, 1, 0, 1), "number many lead every settled shown known kept own backs rerun"),
    (Road(), "letters"),
    (House(1, 0, 1), "seats road"),
    (Film([]), "burns pace turns"),
    (Strip(1, 1, 1), "wide power far"),
    (start(), "pace turn square corner heading wall passed burnt"),
)


def listed(table):
    """Modules, names and what is listed of them."""
    for module, rows in table.items():
        for row in rows:
            yield importlib.import_module("nevercaught." + module), row[:row.index("(")], row


class Interface(unittest.TestCase):
    def test_functions(self):
        for module, name, row in listed(FUNCTIONS):
            found = getattr(module, name)
            self.assertTrue(inspect.isfunction(found))
            self.assertEqual((found.__module__, name + str(inspect.signature(found))), (module.__name__, row))

    def test_classes(self):
        for module, name, row in listed(CLASSES):
            found = getattr(module, name)
            self.assertTrue(inspect.isclass(found))
            self.assertEqual((found.__module__, name + str(inspect.signature(found))), (module.__name__, row))

    def test_methods_stand_in_their_class(self):
        for (module, name), methods in METHODS.items():
            found = getattr(importlib.import_module("nevercaught." + module), name)
            for method in methods:
                self.assertIn(method, vars(found))

    def test_papers_are_below_paper_and_denials_below_denial(self):
        for module, name, _ in listed(CLASSES):
            found = getattr(module, name)
            self.assertEqual(issubclass(found, Paper), name in PAPERS)
            self.assertEqual(issubclass(found, Denial), name in DENIALS)

    def test_read_is_asked_of_the_class(self):
        for (module, name), methods in METHODS.items():
            found = getattr(importlib.import_module("nevercaught." + module), name)
            self.assertEqual("read" in vars(found), "read" in methods)
            if "read" in methods:
                self.assertIsInstance(vars(found)["read"], (staticmethod, classmethod))

    def test_methods_take_what_is_listed(self):
        for (module, name), methods in METHODS.items():
            found = getattr(importlib.import_module("nevercaught." + module), name)
            for method in methods:
                takes = TAKEN_BY.get((name, method), TAKEN.get(method, ""))
                told = ", ".join(inspect.signature(getattr(found, method)).parameters)
                self.assertEqual(told, takes if method == "read" else ", ".join(["self", takes]).rstrip(", "), (name, method))

    def test_attributes_are_set_when_an_object_is_made(self):
        for made, names in ATTRIBUTES:
            for word in names.split():
                self.assertTrue(hasattr(made, word), (made, word))


if __name__ == "__main__":
    unittest.main()
