"""The texts of walls."""

import unittest

import own
from nevercaught.errors import BadSquares, BadText, Misfit
from nevercaught.walls import wall_read, wall_text

LONG = "9" * 60
TOO_LONG = "9" * 61


class Texts(unittest.TestCase):
    def test_written(self):
        self.assertEqual(wall_text([]), "-")
        self.assertEqual(wall_text([[3, 1], (0, -2), (0, -12)]), "0 -12 / 0 -2 / 3 1")
        self.assertEqual(wall_text(wall=((0, 0),)), "0 0")
        self.assertEqual(wall_text([(int(LONG), -int(LONG))]), LONG + " -" + LONG)

    def test_read(self):
        self.assertEqual(wall_read("-"), ())
        self.assertEqual(wall_read(text="0 0"), ((0, 0),))
        self.assertEqual(wall_read("0 -12 / 0 -2 / 3 1"), ((0, -12), (0, -2), (3, 1)))
        self.assertEqual(wall_read(LONG + " -" + LONG), ((int(LONG), -int(LONG)),))
        self.assertEqual(wall_read("3 -5 / 3 -4 / 30 -7"), ((3, -5), (3, -4), (30, -7)))

    def test_read_back(self):
        source = own.seeded(4)
        for _ in range(200):
            wall = own.random_wall(source)
            source.shuffle(wall)
            text = wall_text(wall)
            self.assertEqual(wall_read(text), tuple(sorted(wall)))
            self.assertEqual(wall_text(wall_read(text)), text)

    def fails(self, text, item):
        with self.assertRaises(BadText) as caught:
            wall_read(text)
        self.assertEqual((caught.exception.line, caught.exception.item), (0, item), text)

    def test_no_strings(self):
        for value in (None, True, 0, 5, b"0 1", ["0 1"], ("0", "1"), {}, {"-"}, 1.5, object(), [], ()):
            self.fails(value, 0)

    def test_items_that_cannot_stand(self):
        for word in ("", "x", "+1", "01", "00", "-0", "-01", "--1", "1.", "1_0", "1e3", "/", "\n", "\t1", "1\n",
                     "-" + TOO_LONG, TOO_LONG, "\u0663", "\u00b2", "\u2212" + "1", "None", "(0,", "0x1", "#"):
            self.fails(word, 0)
            self.fails(word + " 1", 0)
            self.fails("1 " + word, 1)
            self.fails("1 " + word + " / 2 3", 1)
            self.fails("0 1 / " + word, 3)
            self.fails("0 1 / 2 " + word, 4)
            self.fails("0 1 / 2 " + word + " / 3 4", 4)

    def test_bars_and_ends(self):
        for word in ("", "x", "-", "//", "|", "0", "12", "\n", "/ "[1:]):
            self.fails("0 1 " + word, 2)
            self.fails("0 1 " + word + " 2 3", 2)
            self.fails("0 1 / 2 3 " + word, 5)
        self.fails("- 0", 1)
        self.fails("- /", 1)
        self.fails("- ", 1)
        self.fails("- -", 1)
        self.fails("-  0 1", 1)
        self.fails("0 1 / -", 3)
        self.fails("0 -", 1)

    def test_blanks(self):
        self.fails("", 0)
        self.fails(" ", 0)
        self.fails(" 0 1", 0)
        self.fails("0  1", 1)
        self.fails("0 1  / 2 3", 2)
        self.fails("0 1 /  2 3", 3)
        self.fails("0 1 / 2 3 ", 5)

    def test_missing_items(self):
        self.fails("0", 1)
        self.fails("0 1 /", 3)
        self.fails("0 1 / 2", 4)
        self.fails("0 1 / 2 3 /", 6)

    def test_order(self):
        self.fails("1 3 / 0 2", 3)
        self.fails("1 3 / 1 2", 4)
        self.fails("1 3 / 1 3", 4)
        self.fails("0 1 / 1 3 / 0 5", 6)
        self.fails("0 1 / 1 3 / 1 -3", 7)
        self.fails("5 1 / 4", 3)
        self.fails("0 2 / 0 10 / 0 9", 7)

    def test_left_half(self):
        self.fails("-1 0", 0)
        self.fails("-1 x", 0)
        self.fails("0 1 / -1 2", 3)
        self.fails("-" + LONG + " 0", 0)

    def test_the_first_item_is_told(self):
        self.fails("0 x / y z", 1)
        self.fails("0 1 2 x", 2)
        self.fails("1 3 / 0 x", 3)

    def test_walls_that_are_none(self):
        for value in own.NO_LISTS:
            with self.assertRaises(BadSquares) as caught:
                wall_text(value)
            self.assertEqual(caught.exception.part, "wall")
        with self.assertRaises(Misfit) as caught:
            wall_text([(0, 1), (-1, 0)])
        self.assertEqual(caught.exception.part, "wall")


if __name__ == "__main__":
    unittest.main()
