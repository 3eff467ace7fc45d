"""The texts of Stands, and how they are read."""

import unittest

import own
from nevercaught.errors import BadText
from nevercaught.stands import Stand, flown, start

FAR = 10 ** 59
LONG = "1" + "0" * 60
# Items 0 to 7 are the eight integers, 8, 11 and 14 the bars.
WHOLE = "1 4 1 3 1 4 0 1 / 0 3 / 1 3 / 0 3"
NO_INTEGERS = ("", "x", "+1", "01", "-0", "00", "-01", "1.0", "1,", "--1", "-", "1-", "/", "1/", LONG, "-" + LONG, "1e3", "\t1", "1\n",
               "0x1", "\u0661", "1_0")


def text_of(stand):
    """The text as the document tells it."""
    first = [stand.pace, stand.turn, *stand.square, *stand.corner, *stand.heading]
    items = [str(number) for number in first]
    for lot in (stand.wall, stand.passed, stand.burnt):
        items.append("/")
        for square in lot:
            items += [str(number) for number in square]
    return " ".join(items)


class Texts(unittest.TestCase):
    def test_texts(self):
        self.assertEqual(str(start()), "1 0 0 0 0 1 0 1 / / 0 0 /")
        self.assertEqual(str(start(12)), "12 0 0 0 0 1 0 1 / / 0 0 /")
        self.assertEqual(str(flown(start(), [(0, 1)])), "1 1 1 1 1 2 0 1 / 0 1 / 0 0 1 1 / 0 1")
        stand = Stand(1, 4, (1, 3), (1, 4), (0, 1), [(0, 3)], [(1, 3)], [(0, 3)])
        self.assertEqual(str(stand), WHOLE)
        far = Stand(3, FAR, (FAR, -FAR), (FAR, 1 - FAR), (0, 1), [(FAR - 1, -FAR)], [(FAR, -FAR)], [(-FAR, FAR), (-FAR, -FAR)])
        self.assertEqual(str(far), text_of(far))
        self.assertEqual(Stand.read(str(far)), far)

    def test_texts_read_back(self):
        source = own.seeded(6)
        for _ in range(200):
            stand = Stand(*own.random_parts(source))
            self.assertEqual(str(stand), text_of(stand))
            again = Stand.read(str(stand))
            self.assertEqual((again, own.parts(again), type(again)), (stand, own.parts(stand), Stand))
        self.assertEqual(Stand.read(text=WHOLE).wall, ((0, 3),))

    def test_all_headings(self):
        for corner, heading in (((3, 4), "0 1"), ((4, 4), "1 0"), ((4, 3), "0 -1"), ((3, 3), "-1 0")):
            ring = " ".join(f"{x} {y}" for x in (2, 3, 4) for y in (2, 3, 4) if (x, y) != (3, 3))
            text = f"2 0 3 3 {corner[0]} {corner[1]} {heading} / {ring} / -7 2 3 3 / -9 -9 -9 1"
            self.assertEqual(str(Stand.read(text)), text)


class WrongTexts(unittest.TestCase):
    def fails(self, text, item):
        with self.assertRaises(BadText) as caught:
            Stand.read(text)
        self.assertEqual((caught.exception.line, caught.exception.item), (0, item), text)

    def bent(self, at, item, text=WHOLE):
        items = text.split(" ")
        items[at] = item
        return " ".join(items)

    def test_no_strings(self):
        for value in own.STRANGE:
            if not isinstance(value, str):
                self.fails(value, 0)
        for value in (0, 5, ["1"], (), start(), WHOLE.split(" ")):
            self.fails(value, 0)

    def test_items_that_are_no_integers(self):
        for at in (0, 1, 2, 3, 4, 5, 6, 7, 9, 10, 12, 13, 15, 16):
            for item in NO_INTEGERS:
                if item == "/" and at in (9, 12):
                    # The bar ends the lot; what is no bar behind it cannot stand.
                    continue
                self.fails(self.bent(at, item), at)
                if at < 16:
                    self.fails(self.bent(at, item) + " y z", at)

    def test_bars(self):
        for at in (8, 11):
            for item in ("", "x", "-", "//", "|", "\\", LONG, "+5"):
                self.fails(self.bent(at, item), at)
        self.fails(self.bent(8, "5"), 8)
        self.fails("1 4 1 3 1 4 0 1 0 3 / 1 3 / 0 3", 8)
        self.fails("1 4 1 3 1 4 0 1 / 0 / 1 3 / 0 3", 10)
        self.fails("1 4 1 3 1 4 0 1 / 0 3 / 1 / 0 3", 13)
        self.fails(WHOLE + " /", 17)
        self.fails("1 0 0 0 0 1 0 1 / / 0 0 / /", 13)
        self.fails("1 0 0 0 0 1 0 1 / / / 0 0", 12)
        self.fails("1 0 0 0 0 1 0 1 / / / 0 0 /", 13)
        self.fails("1 4 1 3 1 4 0 1 / 0 3 1 3 / 0 3", 16)

    def test_pace_and_turn(self):
        for item in ("0", "13", "-1", "100", "9" * 60):
            self.fails(self.bent(0, item), 0)
        for item in ("-1", "-5", "-" + "9" * 60):
            self.fails(self.bent(1, item), 1)
        for item in ("2", "12"):
            self.assertEqual(Stand.read(self.bent(0, item)).pace, int(item))
        self.assertEqual(Stand.read(self.bent(1, "9" * 60)).turn, int("9" * 60))

    def test_headings(self):
        for item in ("2", "-2", "7"):
            self.fails(self.bent(6, item), 6)
            self.fails(self.bent(7, item), 7)
            self.fails(self.bent(7, "x", self.bent(6, item)), 6)
        for x, y in ((0, 0), (1, 1), (1, -1), (-1, 1), (-1, -1), (1, 2), (-1, 5), (0, 2), (0, -2)):
            self.fails(self.bent(7, str(y), self.bent(6, str(x))), 7)

    def test_order_of_squares(self):
        for first in ("1 4 1 3 1 4 0 1 / ", "1 4 1 3 1 4 0 1 / / ", "1 4 1 3 1 4 0 1 / / / "):
            at = len(first.split(" ")) - 1
            self.fails(first + "5 3 4 9", at + 2)
            self.fails(first + "5 3 4", at + 2)
            self.fails(first + "5 3 5 3", at + 3)
            self.fails(first + "5 3 5 2 x", at + 3)
            self.fails(first + "5 3 5 x", at + 3)
            self.fails(first + "2 5 2 10 2 9", at + 5)
            self.fails(first + "2 5 3 -9 3 -10", at + 5)
            self.fails(first + "2 5 x", at + 2)
        # Each lot begins anew.
        self.assertEqual(Stand.read("1 4 1 3 1 4 0 1 / 0 3 0 9 / -1 3 1 3 / -5 3").burnt, ((-5, 3),))

    def test_the_left_half(self):
        self.fails("1 4 1 3 1 4 0 1 / -1 3 / 1 3 /", 9)
        self.fails("1 4 1 3 1 4 0 1 / -1 x", 9)
        self.fails("1 4 1 3 1 4 0 1 / 0 3 -1 3 / 1 3 /", 11)

    def test_missing_items(self):
        items = "1 4 1 3 1 4 0 1 / 0 3 / 1 3 / 0 3".split(" ")
        for many in (1, 2, 3, 4, 5, 6, 7, 8, 9, 10, 11, 12, 13, 14, 16):
            self.fails(" ".join(items[:many]), many)
        self.assertEqual(Stand.read(" ".join(items[:15])).burnt, ())
        self.fails("", 0)

    def test_blanks(self):
        self.fails(" " + WHOLE, 0)
        self.fails(WHOLE + " ", 17)
        self.fails(WHOLE.replace("/ 1", "/  1"), 12)
        self.fails(WHOLE.replace("4 0", "4  0"), 6)
        self.fails("1 0 0 0 0 1 0 1 / / 0 0 / ", 13)
        self.fails("1 0 0 0 0 1 0 1 /  / 0 0 /", 9)

    def test_an_item_too_many(self):
        self.fails(WHOLE + " 1", 18)
        self.fails(WHOLE + " x", 17)
        self.fails("1 0 0 0 0 1 0 1 / / 0 0 / 5", 14)

    def test_parts_that_do_not_go_together(self):
        self.fails("1 0 1 0 0 1 0 1 / / 0 0 1 0 /", 14)
        self.fails("1 0 0 0 0 1 0 -1 / / 0 0 /", 12)
        self.fails("1 0 -1 0 -1 1 0 1 / / -1 0 / 4 4", 14)
        self.fails("1 0 0 0 0 1 0 1 / / 0 1 /", 12)
        self.fails("1 0 0 0 0 1 0 1 / / /", 10)
        self.fails("1 4 1 3 1 4 0 1 / 0 3 1 3 / 1 3 / 0 3 8 8", 20)
        self.fails("1 4 1 3 1 4 0 1 / 0 0 0 3 / 1 3 / 0 3", 18)
        self.fails("1 4 1 3 1 4 0 1 / 0 4 / 1 3 / 0 3", 16)

    def test_the_first_item_is_told(self):
        self.fails("0 -1 x", 0)
        self.fails("1 -1 x", 1)
        self.fails("1 0 1 0 0 1 0 1 / / 0 0 / 4 x", 14)
        self.fails("1 0 1 0 0 1 0 1 / / 0 0", 12)


if __name__ == "__main__":
    unittest.main()
