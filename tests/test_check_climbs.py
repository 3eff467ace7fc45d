"""Whether a climber is caught: papers that are told, and bent ones."""

import copy
import time
import unittest

import climbing
import own
from own import Sore
from nevercaught.check_climbs import Caught, Free, judged, shows_climb, shows_judged
from nevercaught.climbs import begun, is_burnt, moved
from nevercaught.errors import BadClimb, BadNumber
from nevercaught.papers import Denial, Paper


class Below(Caught):
    """A class below Caught."""


class BelowFree(Free):
    """A class below Free."""


def whole_climb(source, power, last=1):
    """A climb that stands so far below the lid, by long ways."""
    tall, climb = climbing.height(power), begun(power)
    while climb.square[1] < tall - last:
        stage = len(climb.origins) - 1
        end = tall - last if stage == climbing.combs(power) else tall - tall // 2 ** (stage + 1)
        rise = end - climb.square[1]
        turns = source.randint(-(-rise // power), rise)
        aside = source.randint(-power * turns, power * turns)
        climb = moved(climb, turns, (climb.square[0] + aside, end))
    return climb


def games(seed):
    """Climbs of power 1, turn by turn, with what the tests' own book tells of them."""
    source = own.seeded(seed)
    for way in climbing.WAYS:
        game, climb = climbing.Game(1), begun(1)
        while game.free():
            yield game, climb
            goal = way(game) if source.random() < 0.8 else source.choice(game.free())
            game.go(goal)
            climb = moved(climb, 1, goal)
        yield game, climb


WHOLE = [whole_climb(own.seeded(seed), power) for seed, power in ((917, 1), (918, 1), (919, 2), (920, 3))]
NEAR = [whole_climb(own.seeded(930 + power), power, last) for power in (1, 2, 3) for last in (2, power + 1, 3 * power)]


class Judged(unittest.TestCase):
    def test_power_1_turn_by_turn(self):
        for game, climb in games(921):
            told = judged(climb)
            free = game.free()
            if free:
                self.assertEqual((type(told), told.word, told.parts, bool(told)), (Free, "free", (told.square,), False))
                self.assertIn(told.square, free)
            else:
                self.assertEqual((type(told), told.word, bool(told)), (Caught, "caught", True))
                self.assertEqual(told.parts, (tuple(game.origins), tuple(game.lasted), game.square))
                self.assertEqual(climb.square[1], 255)
            self.assertEqual(judged(climb=climb), told)
            self.assertIs(shows_judged(climb, told), True)

    def test_greater_powers(self):
        for climb in WHOLE:
            told = judged(climb)
            self.assertEqual(told, Caught(list(climb.origins), [*climb.lasted], list(climb.square)))
            self.assertEqual((told.origins, told.lasted, told.square), (climb.origins, climb.lasted, climb.square))
            self.assertIs(shows_judged(climb, told), True)
            self.assertIs(shows_climb(climb.power, told), True)
        for climb in NEAR:
            told = judged(climb)
            self.assertIs(type(told), Free)
            self.assertIn(told.square, climbing.reached(climb.power, climb.square))
            self.assertFalse(is_burnt(climb, told.square))
            self.assertIs(shows_judged(climb, told), True)

    def test_any_free_square(self):
        count = 0
        for game, climb in games(922):
            if game.turn % 5 == 0 or game.square[1] > 240:
                free = game.free()
                x, y = game.square
                for square in [(x + a, y + b) for a in range(-3, 4) for b in range(-2, 4)]:
                    right = square in free
                    self.assertIs(shows_judged(climb, Free(square)), right)
                    self.assertIs(shows_judged(value=Free(list(square)), climb=climb), right)
                    count += right
        self.assertGreater(count, 100)

    def test_free_squares_of_greater_powers(self):
        for climb in NEAR:
            power, tall, (x, y) = climb.power, climbing.height(climb.power), climb.square
            for a in range(-power - 2, power + 3):
                for b in range(-1, power + 3):
                    # Near the lid all of it that can be come to is burnt.
                    right = abs(a) <= power and 1 <= b <= power and y + b < tall
                    self.assertIs(shows_judged(climb, Free((x + a, y + b))), right)
        for climb in WHOLE:
            x, y = climb.square
            for a in range(-4, 5):
                for b in range(-1, 5):
                    self.assertIs(shows_judged(climb, Free((x + a, y + b))), False)


def near(caught):
    """Papers near a right one, which may be those of other climbs."""
    origins, lasted, square = caught.parts
    for at in range(len(origins)):
        for x, y in ((0, 1), (0, -1), (1, 0), (-1, 0)):
            yield Caught([*origins[:at], (origins[at][0] + x, origins[at][1] + y), *origins[at + 1:]], lasted, square)
        for change in (1, -1):
            yield Caught(origins, [*lasted[:at], lasted[at] + change, *lasted[at + 1:]], square)
            yield Caught(origins, [*lasted[:at], lasted[at] + change, *lasted[at + 1:-1], lasted[-1] - change], square)
    yield Caught(origins, lasted, (square[0] + 1, square[1]))


def bent(caught):
    """Papers near a right one, which are those of no climb."""
    origins, lasted, square = caught.parts
    last = len(lasted) - 1
    for at in (0, 1, last // 2, last):
        yield Caught([*origins[:at], *origins[at + 1:]], lasted, square)
        yield Caught([*origins[:at], origins[at], *origins[at:]], lasted, square)
        yield Caught(origins, [*lasted[:at], *lasted[at + 1:]], square)
        yield Caught(origins, [*lasted[:at], lasted[at], *lasted[at:]], square)
        yield Caught(origins, [*lasted[:at], 0, *lasted[at + 1:]], square)
        yield Caught(origins, [*lasted[:at], -lasted[at], *lasted[at + 1:]], square)
        for value in (True, None, str(lasted[at]), float(7), [lasted[at]], Sore()):
            yield Caught(origins, [*lasted[:at], value, *lasted[at + 1:]], square)
        for value in ((True, origins[at][1]), (origins[at][0], None), "ab", None, Sore(), 7, (origins[at][0],), (*origins[at], 0)):
            yield Caught([*origins[:at], value, *origins[at + 1:]], lasted, square)
    yield Caught(origins[::-1], lasted, square)
    yield Caught(origins, lasted, (square[0], square[1] + 1))
    yield Caught(origins, lasted, (square[0], square[1] - 1))
    yield Caught(origins[:-1], lasted[:-1], origins[-1])
    yield Caught([(1, 0), *origins[1:]], lasted, square)
    for value in (*own.STRANGE, 0, 1, (), [], Sore(), "ab"):
        yield Caught(value, lasted, square)
        yield Caught(origins, value, square)
        yield Caught(origins, lasted, value)
    yield Caught(lasted, origins, square)
    yield Caught((), (), square)


class Bent(unittest.TestCase):
    def test_judged(self):
        for climb in WHOLE:
            told = judged(climb)
            for value in (*bent(told), *near(told)):
                self.assertIs(shows_judged(climb, value), False)
            for value in (*own.STRANGE, 0, 1, Sore(), told.parts, climb, Caught, Paper("caught", *told.parts),
                          Denial("caught", *told.parts), Below(*told.parts), Free(told.square)):
                self.assertIs(shows_judged(climb, value), False)
        for climb in NEAR:
            told = judged(climb)
            for value in (*own.STRANGE, 0, Sore(), told.parts, Free, Denial("free", told.square), BelowFree(told.square),
                          Caught(climb.origins, climb.lasted, climb.square), Free(None), Free("ab"), Free(Sore()), Free(()),
                          Free((*told.square, 1)), Free((True, told.square[1])), Free([told.square])):
                self.assertIs(shows_judged(climb, value), False)

    def test_another_climb(self):
        one, other = WHOLE[0], WHOLE[1]
        self.assertIs(shows_judged(one, judged(other)), False)
        self.assertIs(shows_judged(NEAR[0], judged(one)), False)
        self.assertIs(shows_judged(one, judged(NEAR[0])), False)

    def test_any_climb_bent(self):
        for climb in WHOLE:
            for value in bent(judged(climb)):
                self.assertIs(shows_climb(climb.power, value), False)
            told = judged(climb)
            for value in (*own.STRANGE, 0, Sore(), told.parts, climb, Paper("caught", *told.parts), Below(*told.parts),
                          Free(climb.square), Denial("caught", *told.parts)):
                self.assertIs(shows_climb(climb.power, value), False)
            for power in range(1, 10):
                self.assertIs(shows_climb(power, told), power == climb.power)

    def test_lists_for_tuples(self):
        for climb in WHOLE:
            told = Caught([list(square) for square in climb.origins], list(climb.lasted), list(climb.square))
            told.origins, told.lasted = [list(square) for square in climb.origins], list(climb.lasted)
            told.square = list(climb.square)
            self.assertIs(shows_climb(climb.power, told), True)
            self.assertIs(shows_judged(climb, told), True)
        told = judged(NEAR[0])
        told.square = list(told.square)
        self.assertIs(shows_judged(NEAR[0], told), True)


class AnyClimb(unittest.TestCase):
    def test_whole_climbs(self):
        source = own.seeded(925)
        for power in (1, 1, 1, 1, 2, 2, 3):
            climb = whole_climb(source, power)
            self.assertIs(shows_climb(value=Caught(climb.origins, climb.lasted, climb.square), power=power), True)

    def test_as_the_climbs_go(self):
        # Changes of one length, one origin or the square are right just if a climb goes so.
        source, counts = own.seeded(926), {True: 0, False: 0}
        for climb in WHOLE:
            origins, lasted, square = list(climb.origins), list(climb.lasted), climb.square
            for _ in range(150):
                at = source.randrange(len(lasted))
                told = [list(origins), list(lasted), square]
                change = source.choice((-40, -3, -1, 1, 2, 5))
                if source.random() < 0.5:
                    told[1][at] += change
                elif at:
                    x, y = origins[at]
                    told[0][at] = (x + change, y + source.choice((0, 0, 1, -1)))
                else:
                    told[2] = (square[0] + change, square[1])
                right = self.goes(climb.power, *told)
                counts[right] += 1
                self.assertIs(shows_climb(climb.power, Caught(*told)), right)
        self.assertGreater(min(counts.values()), 50)

    def goes(self, power, origins, lasted, square):
        """Whether a climb goes so, by the facts of ways."""
        tall = climbing.height(power)
        if origins[0] != (0, 0):
            return False
        for stage, (here, turns, there) in enumerate(zip(origins, lasted, [*origins[1:], square])):
            rise, aside = there[1] - here[1], abs(there[0] - here[0])
            if turns < 1 or not turns <= rise <= power * turns or aside > power * turns:
                return False
            if stage == len(origins) - 1:
                return there[1] == tall - 1
            end = tall - tall // 2 ** (stage + 1)
            # One turn earlier the climber must be able to be below the row at which the stage ends.
            if there[1] < end or max(here[1] + turns - 1, there[1] - power) > end - 1:
                return False
        return False


class WrongInputs(unittest.TestCase):
    def raises(self, kind, part, ask, *values):
        with self.assertRaises(kind) as caught:
            ask(*values)
        self.assertEqual(caught.exception.part, part)

    def test_errors(self):
        for value in (*own.STRANGE, 0, 10, -1, [1]):
            self.raises(BadNumber, "power", shows_climb, value, judged(WHOLE[0]))
            self.raises(BadNumber, "power", shows_climb, value, None)
        for value in (*own.STRANGE, 0, 1, judged(WHOLE[0]), WHOLE):
            self.raises(BadClimb, "climb", judged, value)
            self.raises(BadClimb, "climb", shows_judged, value, judged(WHOLE[0]))
            self.raises(BadClimb, "climb", shows_judged, value, None)

    def test_nothing_passed_is_changed(self):
        climb = WHOLE[0]
        told, kept = judged(climb), copy.deepcopy(climb)
        paper = copy.deepcopy(told)
        shows_judged(climb, told)
        shows_climb(1, told)
        self.assertEqual((climb, told), (kept, paper))

    def test_papers_keep_what_they_are_given(self):
        told = Caught(square=[1, [2]], lasted="a", origins=None)
        self.assertEqual((told.origins, told.lasted, told.square, told.parts), (None, "a", (1, (2,)), (None, "a", (1, (2,)))))
        self.assertEqual((Free(square=[[3]]).square, Free(None).parts, bool(Free(1))), (((3,),), (None,), False))

    def test_a_short_time(self):
        source = own.seeded(927)
        for power in range(1, 10):
            climb = whole_climb(source, power)
            began = time.process_time()
            self.assertIs(shows_judged(climb, judged(climb)), True)
            self.assertIs(shows_climb(power, judged(climb)), True)
            self.assertLess(time.process_time() - began, 4)


if __name__ == "__main__":
    unittest.main()
