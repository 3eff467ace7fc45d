"""The names, the parameters and the places of what the interface lists."""

import importlib
import inspect
import unittest

from nevercaught.papers import Denial, Paper

FUNCTIONS = {
    "checks": ("is_integer(value)", "is_within(value, least, most)", "is_square(value)", "are_squares(value)",
               "squares_of(values)", "around(square)"),
    "papers": ("fixed(value)",),
    "walls": ("length_of(wall)", "burnt_in(wall, burnt)", "cost_of(wall, burnt)", "is_better(one, other, burnt)",
              "united(one, other)", "shared(one, other)", "clipped(wall, column, low, high)", "wall_text(wall)",
              "wall_read(text)"),
    "parts": ("parts_of(wall)", "rooted(wall)", "holes_of(wall)", "filled(wall)"),
    "lines": ("beside(corner, heading)", "next_step(wall, corner, heading)", "step_back(wall, corner, heading)",
              "steps_on(wall, corner, heading, many)", "whole_line(wall)"),
    "boards": ("fits(board, wall)", "box_of(board)"),
    "best": ("best_for(board)", "cheapest_cost(board)"),
    "check_best": ("shows_best(board, value)",),
    "stands": ("start(pace=1)", "flown(stand, burns)", "way_of(stand)"),
    "flights": ("flight(burns, pace=1)", "where(burns, pace=1)", "boards_of(burns, pace=1)"),
    "check_flights": ("shows_flight(burns, value, pace=1)",),
    "pockets": ("meetings_of(wall)", "shut_in(wall, one, other)", "closed_at(wall, one, other)"),
    "blames": ("wall_run(burns, walls, pace=1)", "costs_of(burns, walls, pace=1)", "rises_of(burns, walls, pace=1)",
               "left_out(burns, walls, pace=1)", "first_passed(burns, walls, square, pace=1)", "caught_at(burns, walls, pace=1)",
               "blame(burns, walls, pace=1)"),
    "check_blames": ("shows_blame(burns, walls, value, pace=1)",),
    "burners": ("match(burner, turns, pace=1)",),
    "strips": ("may_fly(strip, burnt, square)", "strip_burn(strip, burnt, square)", "strip_game(strip, column, flights)",
               "passage(strip, column)"),
    "check_strips": ("shows_passage(strip, column, value)",),
    "climbers": ("combs_for(power)", "height_for(power)", "reach_of(power, square)", "turns_for(power, square, goal)"),
    "climbs": ("begun(power)", "moved(climb, turns, square)", "burn_of(climb)", "due_of(climb)", "is_burnt(climb, square)",
               "is_caught(climb)"),
    "check_climbs": ("judged(climb)", "shows_judged(climb, value)", "shows_climb(power, value)"),
}
CLASSES = {
    "papers": ("Paper(word, *parts)", "Denial(word, *parts)"),
    "boards": ("Board(held, passed, burnt)",),
    "best": ("Best(squares, right, up)",),
    "stands": ("Stand(pace, turn, square, corner, heading, wall, passed, burnt)",),
    "flights": ("Flight(stands, walls)",),
    "blames": ("Blamed(turn, squares)",),
    "burners": ("Burner()", "Told(row)", "Ahead(steps)", "Ring(middle, size)", "Block(corner, wide)", "Looker(tries, deep)",
                "Asked(ask)"),
    "strips": ("Strip(wide, power, far)", "Through(flights)", "Shut(turns)"),
    "check_climbs": ("Caught(origins, lasted, square)", "Free(square)"),
    "seats": ("Seat(number, many, lead, every)",),
}
METHODS = {
    ("papers", "Paper"): ("__eq__",),
    ("papers", "Denial"): ("__eq__",),
    ("boards", "Board"): ("__eq__", "is_passed"),
    ("stands", "Stand"): ("__eq__", "__str__", "read"),
    ("burners", "Told"): ("burns",),
    ("burners", "Ahead"): ("burns",),
    ("burners", "Ring"): ("burns",),
    ("burners", "Block"): ("burns",),
    ("burners", "Looker"): ("burns",),
    ("burners", "Asked"): ("burns",),
    ("strips", "Strip"): ("__eq__",),
    ("climbs", "Climb"): ("__eq__",),
    ("seats", "Seat"): ("__eq__", "__str__", "read", "decide", "hears", "tick", "asks", "sure"),
}
TAKEN = {
    "is_passed": "(self, square)",
    "burns": "(self, stand)",
    "decide": "(self, burn)",
    "hears": "(self, letter)",
    "tick": "(self)",
    "asks": "(self)",
    "sure": "(self)",
}
PAPERS = ("Paper", "Denial", "Best", "Flight", "Blamed", "Through", "Shut", "Caught", "Free")
DENIALS = ("Denial", "Shut", "Free")


def listed(table):
    """Modules, names and what is listed of them."""
    for module, rows in table.items():
        for row in rows:
            yield importlib.import_module("nevercaught." + module), row[:row.index("(")], row


class Interface(unittest.TestCase):
    def test_functions(self):
        for module, name, row in listed(FUNCTIONS):
            found = getattr(module, name)
            self.assertTrue(inspect.isfunction(found))
            self.assertEqual((found.__module__, name + str(inspect.signature(found))), (module.__name__, row))

    def test_classes(self):
        for module, name, row in listed(CLASSES):
            found = getattr(module, name)
            self.assertTrue(inspect.isclass(found))
            self.assertEqual((found.__module__, name + str(inspect.signature(found))), (module.__name__, row))

    def test_methods_stand_in_their_class(self):
        for (module, name), methods in METHODS.items():
            found = getattr(importlib.import_module("nevercaught." + module), name)
            for method in methods:
                self.assertIn(method, vars(found))

    def test_papers_are_below_paper_and_denials_below_denial(self):
        for module, name, _ in listed(CLASSES):
            found = getattr(module, name)
            self.assertEqual(issubclass(found, Paper), name in PAPERS)
            self.assertEqual(issubclass(found, Denial), name in DENIALS)

    def test_read_is_asked_of_the_class(self):
        for (module, name), methods in METHODS.items():
            found = getattr(importlib.import_module("nevercaught." + module), name)
            self.assertEqual("read" in vars(found), "read" in methods)
            if "read" in methods:
                self.assertIsInstance(vars(found)["read"], (staticmethod, classmethod))
                self.assertEqual(str(inspect.signature(found.read)), "(text)")

    def test_methods_take_what_is_listed(self):
        for (module, name), methods in METHODS.items():
            found = getattr(importlib.import_module("nevercaught." + module), name)
            for method in methods:
                if method not in ("read", "__eq__", "__str__"):
                    self.assertEqual(str(inspect.signature(getattr(found, method))), TAKEN[method])


if __name__ == "__main__":
    unittest.main()
