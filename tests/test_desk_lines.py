"""The lines of a desk: each form, right and bent at each item, and the order of errors."""

import unittest

import own
from nevercaught.desks import Desk
from nevercaught.errors import BadText, Misfit, NoName, TooMany, Twice

LONG = "1" * 61
NO_NAMES = ("", "A", "One", "oNe", "1a", "9", "a_b", "a-b", "-", "/", "a" * 13, "a.b", "\u00e4", "a\n", "\ta", "'a'", "a\u0661", "_a", "+1")
NO_INTEGERS = ("", "x", "+5", "05", "00", "-0", "--1", "1-", "1.0", LONG, "-" + LONG, "\u0661", "1\n", "0x1", "1_0", "/", "one")
# Each form, with what its items are: w a word, n a name, k a pace, i an integer, - a burn's sign for None, / a bar.
FORMS = (
    ("open new", "wn"),
    ("open new 7", "wnk"),
    ("burn one 0 5", "wnii"),
    ("burn two 0 5 / - / -3 7", "wnii/-/ii"),
    ("burn one -", "wn-"),
    ("copy new one", "wnn"),
    ("cut one 1", "wni"),
    ("film one", "wn"),
    ("where one 1", "wni"),
    ("show one 1 -2 0 3 4", "wniiiii"),
    ("drop one", "wn"),
)


def desk_made():
    return Desk.read(["open one", "burn one 0 5", "open two 3", "burn two 0 1 / 0 2"])


class Lines(unittest.TestCase):
    def setUp(self):
        self.desk = desk_made()

    def kept(self):
        return [(name, str(self.desk.kept(name))) for name in self.desk.names()], self.desk.done()

    def raises(self, told, kind, **fields):
        before = self.kept()
        with self.assertRaises(kind, msg=told) as caught:
            self.desk.tell(told)
        self.assertEqual((type(caught.exception), vars(caught.exception)), (kind, fields), told)
        self.assertEqual(self.kept(), before)

    def fails(self, line, item):
        self.raises(line, BadText, line=0, item=item)


class Bent(Lines):
    def test_all_forms_are_right(self):
        for line, _ in FORMS:
            self.assertIsInstance(desk_made().tell(line=line), str)

    def test_no_strings(self):
        for value in (*own.STRANGE, 0, ["open new"], ("open new",), b"open new", own.Sore(), self.desk):
            if not isinstance(value, str):
                self.fails(value, 0)

    def test_each_item(self):
        for line, kinds in FORMS:
            items = line.split(" ")
            for at, kind in enumerate(kinds):
                for item in self.wrong(kind):
                    bent = [*items[:at], item, *items[at + 1:]]
                    self.fails(" ".join(bent), at)
                    self.fails(" ".join([*bent, "x"]), at)

    def wrong(self, kind):
        """Items that cannot stand where such a one is wanted, whatever comes behind them."""
        if kind == "w":
            return ("", "Open", "opens", "new", "-", "/", "5", "undo", "names", "again", "\u00f6ffnen")
        if kind == "n":
            return NO_NAMES
        if kind == "k":
            return (*NO_INTEGERS, "0", "13", "-1", "100", "-")
        if kind == "i":
            return NO_INTEGERS
        return NO_INTEGERS if kind == "-" else ("", "x", "5", "-", "//", "|", "+", LONG)

    def test_another_word(self):
        for line, kinds in FORMS:
            rest = line.split(" ")[1:]
            for word in ("film", "drop"):
                if len(rest) > 1:
                    self.fails(" ".join([word, *rest]), 2)
            for word in ("cut", "where", "copy", "burn"):
                if len(rest) == 1:
                    self.fails(" ".join([word, *rest]), 2)

    def test_one_missing_or_too_many(self):
        whole = {("open new 7", 2), ("burn two 0 5 / - / -3 7", 4), ("burn two 0 5 / - / -3 7", 6)}
        for line, kinds in FORMS:
            items = line.split(" ")
            for many in range(1, len(items)):
                if (line, many) not in whole:
                    self.fails(" ".join(items[:many]), many)
            self.fails(line + " ", len(items) if line != "open new" else 2)
            self.fails(line + " x", len(items))
            if "burn" not in line:
                self.fails(line + " /", len(items))
            else:
                self.fails(line + " /", len(items) + 1)
                self.fails(line + " / -  ", len(items) + 2)
                self.fails(line + " 5", len(items))
                self.fails(line + " -", len(items))

    def test_blanks(self):
        for line, kinds in FORMS:
            items = line.split(" ")
            for at in range(len(items)):
                self.fails(" ".join([*items[:at], "", *items[at:]]), at)
        self.fails("", 0)
        self.fails(" ", 0)

    def test_names(self):
        for name in ("a", "z" * 12, "a1", "a00000000009", "open", "burn"):
            desk = Desk()
            self.assertEqual(desk.tell(f"open {name}"), "opened")
            self.assertEqual((desk.names(), desk.tell(f"film {name}")), ((name,), "burns"))

    def test_paces(self):
        for pace in range(1, 13):
            desk = Desk()
            desk.tell(f"open one {pace}")
            self.assertEqual(desk.kept("one").pace, pace)
            self.assertEqual(desk.tell("film one"), "burns" if pace == 1 else f"pace {pace} burns")

    def test_great_integers(self):
        great = "9" * 60
        self.assertEqual(self.desk.tell(f"burn one -{great} {great}"), "0 4")
        self.assertEqual(self.desk.tell("film one"), f"burns 0 5 / -{great} {great}")
        self.assertEqual(self.desk.tell(f"show one 2 -{great} {great} -{great} {great}"), "#")
        self.raises(f"where one {great}", Misfit, part="turn")
        self.raises(f"cut one -{great}", Misfit, part="turn")


class Order(Lines):
    def test_the_line_comes_ahead_of_names(self):
        for line, item in (("open one x", 2), ("copy one nobody x", 3), ("burn nobody 0", 3), ("cut nobody x", 2), ("film nobody x", 2),
                           ("where nobody", 2), ("show nobody 0 0 0 0", 6), ("drop nobody x", 2), ("copy one A", 2)):
            self.fails(line, item)

    def test_new_names_come_ahead_of_others(self):
        self.raises("open one", Twice, value="one")
        self.raises("open one 3", Twice, value="one")
        self.raises("copy one nobody", Twice, value="one")
        self.raises("copy one one", Twice, value="one")
        self.raises("copy new nobody", NoName, value="nobody")
        self.raises("copy nobody nobody", NoName, value="nobody")
        for line in ("burn nobody - / - / -", "cut nobody 99", "film nobody", "where nobody 99", "show nobody 99 0 0 -1 0", "drop nobody"):
            self.raises(line, NoName, value="nobody")

    def test_then_burns_turns_and_boxes(self):
        self.raises("burn one - / -", TooMany, what="burns", most=1)
        self.raises("burn two - / - / - / -", TooMany, what="burns", most=3)
        for word in ("cut", "where"):
            for turn in (-1, 2, 10 ** 59):
                self.raises(f"{word} one {turn}", Misfit, part="turn")
            for turn in (0, 1):
                desk_made().tell(f"{word} one {turn}")
        self.raises("show one 2 0 0 -1 0", Misfit, part="turn")
        self.raises("show one -1 0 0 200 200", Misfit, part="turn")
        self.raises("show one 1 0 0 -1 200000", Misfit, part="box")
        self.raises("show one 1 0 0 0 -1", Misfit, part="box")
        self.raises("show one 1 0 0 100 99", TooMany, what="squares", most=10000)
        self.assertEqual(len(self.desk.tell("show one 1 0 0 99 99").split(" ")), 100)

    def test_answers(self):
        told = [self.desk.tell(line) for line in ("open new 2", "burn new 0 1", "copy other new", "where new 0", "where new 1", "film new", "cut new 0",
                                                  "show new 0 0 0 0 0", "show one 1 -1 -1 1 2", "drop new", "cut other 1")]
        self.assertEqual(told, ["opened", "0 2", "copied", "0 0", "0 2", "pace 2 burns 0 1 / -", "cut", "@", "|@. |*. |*. |*.", "dropped", "cut"])


if __name__ == "__main__":
    unittest.main()
