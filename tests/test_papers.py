"""Papers and denials."""

import unittest

from nevercaught.best import Best
from nevercaught.papers import Denial, Paper, fixed


class Papers(unittest.TestCase):
    def test_word_and_parts(self):
        paper = Paper("note", 1, [2, (3, [4])], None)
        self.assertEqual((paper.word, paper.parts), ("note", (1, (2, (3, (4,))), None)))
        self.assertEqual((Paper("bare").parts, Denial(word="no").parts, Denial("no", []).parts), ((), (), ((),)))
        for word in (None, 5, ["a"]):
            self.assertEqual(Paper(word).word, word)

    def test_a_later_change_of_a_list_changes_no_paper(self):
        rows = [[1, 2], [3]]
        paper = Paper("note", rows)
        rows[0].append(9)
        rows.append(5)
        self.assertEqual(paper.parts, (((1, 2), (3,)),))

    def test_truth(self):
        self.assertIs(bool(Paper("no")), True)
        self.assertIs(bool(Paper("note", 0)), True)
        self.assertIs(bool(Denial("yes", 1)), False)
        self.assertTrue(issubclass(Denial, Paper))

    def test_equality(self):
        self.assertEqual(Paper("a", [1, [2]]), Paper("a", (1, (2,))))
        self.assertEqual(Denial("a", [1]), Denial("a", (1,)))
        self.assertEqual(Paper("a", 1), Paper("a", True))
        for other in (Paper("b", 1), Paper("a", 2), Paper("a"), Paper("a", 1, 1), Denial("a", 1), "a", ("a", 1), None, 1):
            self.assertIs(Paper("a", 1) == other, False)
            self.assertIs(Paper("a", 1) != other, True)
        self.assertIs(Denial("a", 1) == Paper("a", 1), False)
        self.assertIs(Denial("a", 1) == Denial("a", 2), False)
        self.assertIs(Best(1, 2, 3) == Paper("best", 1, 2, 3), False)
        self.assertIs(Paper("best", 1, 2, 3) == Best(1, 2, 3), False)

    def test_fixed(self):
        self.assertEqual(fixed([1, [2, (3, [])]]), (1, (2, (3, ()))))
        self.assertEqual(fixed(([],)), ((),))
        table = {"a": [1]}
        for value in (None, 0, True, "ab", table, 1.5, b"x"):
            self.assertIs(fixed(value), value)
        self.assertIs(fixed([table])[0], table)
        deep = []
        for _ in range(30):
            deep = [deep]
        told = fixed(deep)
        for _ in range(30):
            self.assertIs(type(told), tuple)
            told = told[0]
        self.assertEqual(told, ())


class Bests(unittest.TestCase):
    def test_a_best_keeps_any_values(self):
        best = Best([[0, 1]], [[2]], None)
        self.assertEqual((best.word, best.squares, best.right, best.up), ("best", ((0, 1),), ((2,),), None))
        self.assertEqual(best.parts, (((0, 1),), ((2,),), None))
        self.assertEqual(Best(up=None, right=((2,),), squares=[(0, 1)]), best)
        self.assertIs(bool(Best(None, 0, False)), True)
        self.assertTrue(issubclass(Best, Paper) and not issubclass(Best, Denial))


if __name__ == "__main__":
    unittest.main()
