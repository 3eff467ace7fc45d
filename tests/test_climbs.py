"""Climbs, against climbs of the tests' own that are stepped turn by turn."""

import copy
import time
import unittest

import climbing
import own
from nevercaught.climbs import Climb, begun, burn_of, due_of, is_burnt, is_caught, moved
from nevercaught.errors import BadClimb, BadNumber, BadSquare, Misfit

NO_CLIMBS = (*own.STRANGE, 0, (), [], "climb", Climb, climbing.Game(1))


def near_end(power, above, stages=1):
    """A climb that stands so far below the end of its stage."""
    climb = begun(power)
    for stage in range(stages):
        left = climbing.height(power) // 2 ** stage - climbing.height(power) // 2 ** (stage + 1)
        x, y = climb.square
        rise = left - (above if stage == stages - 1 else 0)
        climb = moved(climb, rise, (x + stage, y + rise))
    return climb


def low_in_the_last_stage(power, distance):
    """A climb that stands so far below the lid."""
    climb = near_end(power, 0, climbing.combs(power))
    rise = climbing.height(power) - distance - climb.square[1]
    return moved(climb, rise, (climb.square[0], climb.square[1] + rise))


def way_of(source, power, turns):
    """Squares from one to the next of which a climber goes, from (0, 0) on."""
    squares = [(0, 0)]
    lean = source.randint(1, power)
    while len(squares) <= turns:
        x, y = squares[-1]
        squares.append((x + source.randint(-power, power), y + source.randint(1, lean)))
    return squares


class TurnByTurn(unittest.TestCase):
    def looks_like(self, climb, game):
        self.assertEqual(climbing.parts(climb), game.parts())
        self.assertEqual(burn_of(climb), game.next)
        self.assertIs(is_caught(climb), not game.free())

    def test_whole_climbs_of_power_1(self):
        for way in climbing.WAYS:
            game, climb = climbing.Game(1), begun(1)
            self.looks_like(climb, game)
            while game.free():
                goal = way(game)
                game.go(goal)
                climb = moved(climb, 1, list(goal))
                self.looks_like(climb, game)
                if game.turn % 16 == 0 or not game.free():
                    for x in range(-520, 521):
                        self.assertIs(is_burnt(climb, (x, 256)), (x, 256) in game.burnt)
                        self.assertIs(is_burnt(climb, [x, 255]) or is_burnt(climb, (x, 257)), False)
            self.assertEqual((game.square[1], is_caught(climb), len(climb.origins)), (255, True, 6))
            for goal in ((game.square[0], 256), (game.square[0], 255)):
                with self.assertRaises(Misfit):
                    moved(climb, 1, goal)

    def test_what_is_due_is_counted(self):
        for way in climbing.WAYS:
            game, climb = climbing.Game(1), begun(1)
            while game.free():
                stage = len(game.origins) - 1
                listed = list(climbing.due(1, stage, game.origins[-1])) if stage < 5 else []
                self.assertEqual(due_of(climb), len(listed))
                at = game.lasted[-1]
                self.assertEqual(burn_of(climb), listed[at] if at < len(listed) else None)
                goal = way(game)
                game.go(goal)
                climb = moved(climb, 1, goal)

    def test_greater_powers(self):
        source = own.seeded(911)
        for power in (2, 3, 4, 9):
            game, climb = climbing.Game(power), begun(power)
            tall, combs = climbing.height(power), climbing.combs(power)
            for goal in way_of(source, power, 60)[1:]:
                game.go(goal)
                climb = moved(climb, 1, goal)
                self.looks_like(climb, game)
            # The burnt squares, those ahead of the next burn, those behind it, and those beside the comb.
            far = -(power * tall // combs + 1) * combs
            for x in range(far - 2, far + 40 * combs, 1 if power < 4 else combs // 5):
                for y in range(tall - 1, tall + power + 1):
                    self.assertIs(is_burnt(climb, (x, y)), (x, y) in game.burnt)


class ManyTurns(unittest.TestCase):
    def test_many_turns_as_one(self):
        source = own.seeded(912)
        for power in (1, 1, 1, 2, 3, 9):
            squares = way_of(source, power, 90)
            single = [begun(power)]
            for goal in squares[1:]:
                single.append(moved(single[-1], 1, goal))
            for _ in range(30):
                one, other = sorted(source.sample(range(91), 2))
                self.assertEqual(moved(single[one], other - one, squares[other]), single[other])
                half = source.randint(one, other)
                if one < half < other:
                    there = moved(single[one], half - one, list(squares[half]))
                    self.assertEqual(climbing.parts(moved(there, other - half, squares[other])), climbing.parts(single[other]))

    def test_ways_over_the_end_of_a_stage(self):
        # The turn that ends a stage may be the last one of a way, and no other one.
        source = own.seeded(913)
        for power in (1, 2, 3):
            for stages in (1, 2, climbing.combs(power)):
                for above in range(1, 2 * power + 2):
                    climb = near_end(power, above, stages)
                    stage = stages - 1
                    for turns in (1, 2, 3):
                        there = climbing.goals(power, stage, climb.square, turns)
                        self.compare(climb, turns, there, source)

    def compare(self, climb, turns, there, source):
        x, y = climb.square
        power = climb.power
        for a in range(-power * turns - 2, power * turns + 3):
            for b in range(-1, power * turns + 3):
                goal = (x + a, y + b)
                if goal in there:
                    behind = moved(climb, turns, goal if source.random() < 0.5 else list(goal))
                    stage = len(climb.origins) - 1
                    origins, lasted = climb.origins, (*climb.lasted[:-1], climb.lasted[-1] + turns)
                    if climbing.stage_ends(power, stage, goal):
                        origins, lasted = (*origins, goal), (*lasted, 0)
                    self.assertEqual(climbing.parts(behind), (power, climb.turn + turns, goal, origins, lasted))
                else:
                    with self.assertRaises(Misfit, msg=(power, turns, a, b)) as caught:
                        moved(climb, turns, goal)
                    self.assertEqual(caught.exception.part, "square")

    def test_ways_in_the_last_stage(self):
        source = own.seeded(914)
        for power in (1, 2, 3):
            for distance in range(1, 2 * power + 3):
                climb = low_in_the_last_stage(power, distance)
                self.assertEqual((len(climb.origins), burn_of(climb), due_of(climb)), (climbing.combs(power) + 1, None, 0))
                self.assertIs(is_caught(climb), distance == 1)
                for turns in (1, 2, 3):
                    self.compare(climb, turns, climbing.goals(power, climbing.combs(power), climb.square, turns), source)

    def test_a_last_turn_that_ends_the_stage_and_one_more(self):
        for power in (1, 2, 9):
            tall = climbing.height(power)
            climb = begun(power)
            ended = moved(climb, tall // 2, (0, tall // 2))
            self.assertEqual((ended.origins, ended.lasted), (((0, 0), (0, tall // 2)), (tall // 2, 0)))
            just = moved(climb, tall // 2 - 1, (0, tall // 2 - 1))
            self.assertEqual((just.origins, just.lasted), (((0, 0),), (tall // 2 - 1,)))
            for turns, goal in ((tall // 2 + 1, (0, tall // 2 + 1)), (tall // 2, (0, tall // 2 + power)),
                                (tall // 2 + 1, (0, tall // 2)), (1, (0, power + 1)), (1, (power + 1, 1)), (2, (0, 1))):
                with self.assertRaises(Misfit):
                    moved(climb, turns, goal)
            far = moved(climb, tall // 2, (power * (tall // 2), tall // 2 + power - 1))
            self.assertEqual((len(far.origins), far.turn), (2, tall // 2))

    def test_the_last_stage_does_not_end(self):
        climb = low_in_the_last_stage(1, 7)
        for _ in range(6):
            climb = moved(climb, 1, (climb.square[0] + 1, climb.square[1] + 1))
            self.assertEqual((len(climb.origins), burn_of(climb), due_of(climb)), (6, None, 0))
        self.assertIs(is_caught(climb), True)


class LongWays(unittest.TestCase):
    def test_first_stages_of_all_powers(self):
        source = own.seeded(915)
        began = time.process_time()
        for power in range(1, 10):
            tall, combs = climbing.height(power), climbing.combs(power)
            for lean in (1, power):
                climb = begun(power)
                for stage in range(min(combs, 12)):
                    climb = self.over(source, climb, lean)
                    self.assertEqual(len(climb.origins), stage + 2)
                    self.look_at(source, climb, stage)
                self.assertEqual(climb.turn, sum(climb.lasted))
                self.assertIs(is_burnt(climb, (climb.square[0], tall - 1)), False)
        self.assertLess(time.process_time() - began, 5)

    def over(self, source, climb, lean):
        """To the end of the stage, by two long ways."""
        stage = len(climb.origins) - 1
        tall = climbing.height(climb.power)
        left = tall - climb.square[1] - tall // 2 ** (stage + 1)
        for part in (left // 3, None):
            rise = part if part is not None else tall - climb.square[1] - tall // 2 ** (stage + 1)
            turns = -(-rise // lean)
            aside = source.randint(-climb.power * turns, climb.power * turns)
            if part is None and lean > 1:
                rise = max(rise, turns * 1)
            climb = moved(climb, turns, (climb.square[0] + aside, climb.square[1] + rise))
        return climb

    def look_at(self, source, climb, stage):
        """The comb of the stage that ended is burnt, just where it was due, and wherever the climber can still come in."""
        power, tall, combs = climb.power, climbing.height(climb.power), climbing.combs(climb.power)
        origin = climb.origins[stage]
        far = power * (tall - origin[1])
        due = []
        for edge, step in ((origin[0] - far, 1), (origin[0] + far, -1)):
            while edge % combs != stage:
                edge += step
            due.append(edge)
        first, last = due
        many = ((last - first) // combs + 1) * power
        self.assertGreaterEqual(climb.lasted[stage], many)
        near = power * (tall - climb.square[1])
        for x in (first, last, first + combs * source.randint(0, (last - first) // combs), climb.square[0]):
            x -= (x - stage) % combs
            for row in (0, power - 1):
                self.assertIs(is_burnt(climb, (x, tall + row)), first <= x <= last)
                self.assertIs(is_burnt(climb, [x + combs - 1, tall + row]), (stage - 1) % combs < stage and
                              self.was_due(climb, stage - 1, x + combs - 1))
            self.assertIs(is_burnt(climb, (x, tall - 1)) or is_burnt(climb, (x, tall + power)), False)
        self.assertIs(is_burnt(climb, (first - combs, tall)) or is_burnt(climb, (last + combs, tall)), False)
        x = climb.square[0] - near
        x += (stage - x) % combs
        self.assertIs(is_burnt(climb, (x, tall)), True)

    def was_due(self, climb, stage, x):
        origin = climb.origins[stage]
        return abs(x - origin[0]) <= climb.power * (climbing.height(climb.power) - origin[1])

    def test_within_a_stage(self):
        # The number of the burns tells which columns are burnt: the first ones.
        for power in (1, 2, 5, 9):
            tall, combs = climbing.height(power), climbing.combs(power)
            for turns in (1, power, power + 1, tall // 3, tall // 2 - 1):
                climb = moved(begun(power), turns, (0, turns))
                first = -(power * tall // combs) * combs
                whole, rest = divmod(turns, power)
                due = (2 * (power * tall // combs) + 1) * power
                if turns < due:
                    self.assertEqual(burn_of(climb), (first + whole * combs, tall + rest))
                    self.assertIs(is_burnt(climb, burn_of(climb)), False)
                else:
                    self.assertIsNone(burn_of(climb))
                self.assertEqual(due_of(climb), due)
                for row in range(power):
                    self.assertIs(is_burnt(climb, (first + whole * combs, tall + row)), row < rest and turns < due)
                    self.assertIs(is_burnt(climb, (first, tall + row)), row < turns)
                self.assertIs(is_burnt(climb, (first - combs, tall)), False)

    def test_whole_climbs_of_all_powers(self):
        source = own.seeded(916)
        for power in range(1, 10):
            began = time.process_time()
            tall, climb = climbing.height(power), begun(power)
            while len(climb.origins) <= climbing.combs(power):
                climb = self.over(source, climb, source.choice((1, power)))
                self.assertIs(is_caught(climb), False)
            left = tall - 1 - climb.square[1]
            climb = moved(climb, left, (climb.square[0] - left, tall - 1))
            self.assertIs(is_caught(climb), True)
            for x in range(-power, power + 1):
                for row in range(power):
                    self.assertIs(is_burnt(climb, (climb.square[0] + x, tall + row)), True)
            self.assertLess(time.process_time() - began, 6)


class Values(unittest.TestCase):
    def test_begun(self):
        for power in range(1, 10):
            self.assertEqual(climbing.parts(begun(power=power)), (power, 0, (0, 0), ((0, 0),), (0,)))
            self.assertIsInstance(begun(power), Climb)

    def test_equality(self):
        one, other = moved(begun(1), 3, (2, 3)), moved(moved(begun(1), 1, (1, 1)), 2, [2, 3])
        self.assertTrue(one == other)
        self.assertFalse(one != other)
        for unlike in (begun(1), begun(2), moved(begun(1), 3, (1, 3)), moved(begun(2), 3, (2, 3)), moved(begun(2), 2, (2, 3)), None,
                       (1, 3, (2, 3), ((0, 0),), (3,)), "climb"):
            self.assertFalse(one == unlike)
            self.assertTrue(one != unlike)
        # The same square and turn, behind stages that ended elsewhere.
        here = moved(moved(begun(1), 128, (0, 128)), 2, (0, 130))
        there = moved(moved(begun(1), 128, (1, 128)), 2, (0, 130))
        self.assertEqual((here.turn, here.square, here.lasted), (there.turn, there.square, there.lasted))
        self.assertFalse(here == there)

    def test_nothing_passed_is_changed(self):
        climb, goal = begun(1), [3, 4]
        kept = copy.deepcopy(climb)
        behind = moved(climb, 4, goal)
        goal[0] = 9
        self.assertEqual((climb, behind.square), (kept, (3, 4)))
        again = moved(climb=climb, turns=4, square=(3, 4))
        self.assertEqual(again, behind)

    def test_kinds(self):
        ended = moved(begun(1), 128, [3, 128])
        self.assertEqual([type(value) for value in (ended.square, ended.origins, ended.lasted, ended.origins[1])], [tuple] * 4)
        self.assertEqual(is_burnt(square=[-255, 256], climb=ended), True)
        self.assertIs(type(burn_of(ended)), tuple)


class WrongInputs(unittest.TestCase):
    def raises(self, kind, part, ask, *values):
        with self.assertRaises(kind) as caught:
            ask(*values)
        self.assertEqual(caught.exception.part, part, values)

    def test_power(self):
        for value in (*own.STRANGE, 0, 10, -1, [1], begun(1)):
            self.raises(BadNumber, "power", begun, value)

    def test_climb(self):
        for value in NO_CLIMBS:
            self.raises(BadClimb, "climb", moved, value, None, None)
            self.raises(BadClimb, "climb", burn_of, value)
            self.raises(BadClimb, "climb", due_of, value)
            self.raises(BadClimb, "climb", is_burnt, value, None)
            self.raises(BadClimb, "climb", is_caught, value)

    def test_turns_and_squares(self):
        climb = begun(2)
        for value in (*own.STRANGE, 0, -1, -(10 ** 30), [1]):
            self.raises(BadNumber, "turns", moved, climb, value, None)
        for value in own.NO_SQUARES:
            self.raises(BadSquare, "square", moved, climb, 1, value)
            self.raises(BadSquare, "square", is_burnt, climb, value)
        for turns, goal in ((1, (0, 0)), (1, (3, 1)), (1, (0, 3)), (1, (0, -1)), (3, (0, 2)), (10 ** 60, (0, 1)), (1, (0, 2 ** 41))):
            self.raises(Misfit, "square", moved, climb, turns, goal)


if __name__ == "__main__":
    unittest.main()
