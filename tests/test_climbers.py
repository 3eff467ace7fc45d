"""How far a power leads, and how high the lid is."""

import time
import unittest

import climbing
import own
from nevercaught.climbers import combs_for, height_for, reach_of, turns_for
from nevercaught.errors import BadNumber, BadSquare, Misfit

HEIGHTS = {1: 8, 2: 41, 3: 120, 9: 2936}
NO_POWERS = (*own.STRANGE, 0, 10, -1, 10 ** 30, [1], (1,))


def stepped(power, most):
    """For each square that a climber comes to from (0, 0): the numbers of turns in which it does."""
    found, turns = {(0, 0)}, {}
    for turn in range(1, most + 1):
        found = {s for here in found for s in climbing.reached(power, here)}
        for square in found:
            turns.setdefault(square, []).append(turn)
    return turns


def columns_of_entry(power, square):
    """The columns at which a climber comes from below into the lid, by stepping."""
    tall, found, columns = climbing.height(power), {square}, set()
    while found:
        ahead = {s for here in found for s in climbing.reached(power, here)}
        columns |= {x for x, y in ahead if y >= tall}
        found = {s for s in ahead if s[1] < tall}
    return columns


class Heights(unittest.TestCase):
    def test_all_powers(self):
        for power in range(1, 10):
            self.assertEqual(combs_for(power), climbing.combs(power))
            self.assertEqual(combs_for(power=power), 4 * power ** 3 + 1)
            self.assertEqual(height_for(power), climbing.height(power))
            self.assertEqual(height_for(power=power), 1 << (height_for(power).bit_length() - 1))
        for power, exponent in HEIGHTS.items():
            self.assertEqual(height_for(power), 2 ** exponent)

    def test_the_half_of_the_last_stage_is_whole(self):
        for power in range(1, 10):
            lot = height_for(power) >> (combs_for(power) - 1)
            self.assertEqual(lot << (combs_for(power) - 1), height_for(power))
            self.assertGreaterEqual(lot, 16 * power ** 5)
            self.assertLess(lot // 2, 16 * power ** 5)


class Reach(unittest.TestCase):
    def test_by_stepping(self):
        for power, most in ((1, 9), (2, 5), (3, 4)):
            for distance in range(1, most + 1):
                for x in (0, -7, 40):
                    square = (x, height_for(power) - distance)
                    columns = columns_of_entry(power, square)
                    self.assertEqual(reach_of(power, square), (min(columns), max(columns)))
                    self.assertEqual(reach_of(square=list(square), power=power), (x - power * distance, x + power * distance))

    def test_great_numbers(self):
        for power in range(1, 10):
            tall = height_for(power)
            for x, y in ((0, 0), (5, -3), (-(10 ** 59), 10 ** 40 % tall), (tall, tall - 1), (-tall, tall // 2 + 1)):
                self.assertEqual(reach_of(power, (x, y)), (x - power * (tall - y), x + power * (tall - y)))

    def test_each_turn_leaves_fewer_columns(self):
        source = own.seeded(901)
        for power in (1, 2, 5, 9):
            square = (0, height_for(power) - 60)
            first, last = reach_of(power, square)
            while square[1] < height_for(power) - power:
                square = source.choice(climbing.reached(power, square))
                low, high = reach_of(power, square)
                self.assertTrue(first <= low <= high <= last)
                first, last = low, high


class Turns(unittest.TestCase):
    def test_by_stepping(self):
        for power, most in ((1, 7), (2, 5), (3, 4)):
            turns = stepped(power, most)
            for x in range(-power * most - 1, power * most + 2):
                for y in range(-2, most + 1):
                    # What takes more turns than these lies higher than this window.
                    found = turns.get((x, y))
                    told = (found[0], found[-1]) if found else None
                    self.assertEqual(turns_for(power, (0, 0), (x, y)), told, (power, x, y))
                    if found:
                        self.assertEqual(found, list(range(found[0], found[-1] + 1)))
                    self.assertEqual(turns_for(power, [4, -9], [4 + x, y - 9]), told)

    def test_by_the_facts(self):
        source = own.seeded(902)
        for _ in range(600):
            power = source.randint(1, 9)
            size = 10 ** source.choice((1, 2, 20, 59))
            (x, y), (a, b) = [(source.randint(-size, size), source.randint(-size, size)) for _ in range(2)]
            if source.random() < 0.6:
                b = y + abs(a - x) // power + source.randint(-2, 3)
            told = turns_for(power, (x, y), (a, b))

            def fits(n):
                return n <= b - y <= power * n and abs(a - x) <= power * n and n > 0

            if told is None:
                # The greatest number of turns leads farthest aside.
                self.assertFalse(fits(b - y))
            else:
                low, high = told
                self.assertTrue(fits(low) and fits(high))
                self.assertFalse(fits(low - 1) or fits(high + 1))

    def test_edges(self):
        for power in range(1, 10):
            self.assertIsNone(turns_for(power, (3, 4), (3, 4)))
            self.assertIsNone(turns_for(power, (3, 4), (4, 4)))
            self.assertIsNone(turns_for(power, (3, 4), (3, 3)))
            self.assertEqual(turns_for(power, (3, 4), (3, 5)), (1, 1))
            self.assertEqual(turns_for(power, (3, 4), (3 - power, 5)), (1, 1))
            self.assertIsNone(turns_for(power, (3, 4), (3 + power + 1, 5)))
            self.assertEqual(turns_for(power, (3, 4), (3, 4 + power)), (1, power))
            self.assertEqual(turns_for(power, (3, 4), (3, 5 + power)), (2, power + 1))
            self.assertEqual(turns_for(power, (3, 4), (3 + 6 * power, 10)), (6, 6))
            self.assertIsNone(turns_for(power, (3, 4), (4 + 6 * power, 10)))
            self.assertEqual(turns_for(goal=(0, height_for(power)), square=(0, 0), power=power),
                             (-(-height_for(power) // power), height_for(power)))


class WrongInputs(unittest.TestCase):
    def raises(self, kind, part, ask, *values):
        with self.assertRaises(kind) as caught:
            ask(*values)
        self.assertEqual(caught.exception.part, part, values)

    def test_power(self):
        for value in NO_POWERS:
            self.raises(BadNumber, "power", combs_for, value)
            self.raises(BadNumber, "power", height_for, value)
            self.raises(BadNumber, "power", reach_of, value, None)
            self.raises(BadNumber, "power", turns_for, value, None, None)

    def test_squares(self):
        for value in own.NO_SQUARES:
            self.raises(BadSquare, "square", reach_of, 1, value)
            self.raises(BadSquare, "square", turns_for, 2, value, value)
            self.raises(BadSquare, "goal", turns_for, 2, (0, 0), value)

    def test_in_the_lid_and_above(self):
        for power in (1, 2, 9):
            tall = height_for(power)
            self.assertEqual(reach_of(power, (0, tall - 1)), (-power, power))
            for y in (tall, tall + power - 1, tall + power, 3 * tall):
                self.raises(Misfit, "square", reach_of, power, (0, y))

    def test_what_is_passed_stays(self):
        square, goal = [1, 2], [3, 9]
        turns_for(1, square, goal)
        reach_of(1, square)
        self.assertEqual((square, goal), ([1, 2], [3, 9]))

    def test_a_short_time(self):
        began = time.process_time()
        for power in range(1, 10):
            tall = height_for(power)
            for _ in range(50):
                reach_of(power, (tall, tall - 3))
                turns_for(power, (0, 0), (tall // 3, tall - 1))
        self.assertLess(time.process_time() - began, 2)


if __name__ == "__main__":
    unittest.main()
