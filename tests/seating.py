"""A book of the tests' own of what a seat knows and shows, and burns of games for it."""

import own
from nevercaught.stands import flown, start

MOST = 60
# Values that are no letters.
NO_LETTERS = (*own.STRANGE, 0, (), [], (1, 0), (1, 0, None, None), [1, 0, (0, 3), 4], (0, 0, None), (61, 0, None), (-1, 0, None),
              (1, -1, None), (1, 12, None), (True, 0, None), (1, False, None), (None, 0, None), (1, None, None), ("1", 0, None),
              (1, "0", None), (1.0, 0, None), (1, 0, 5), (1, 0, ()), (1, 0, (1,)), (1, 0, (1, 2, 3)), (1, 0, (1, True)), (1, 0, "ab"),
              (1, 0, ((1, 2), 3)), (1, 0, False), ((1, 0, None),), {1: 2, 3: 4, 5: 6}, "1 0")


class Book:
    """What a seat knows: burns by turn and seat; and how far it shows its game."""

    def __init__(self, number, many, lead, every):
        self.number, self.many, self.lead, self.every = number, many, lead, every
        self.burns, self.turn, self.own, self.backs, self.rerun = {}, 0, 1, 0, 0

    def settled(self):
        turn = 0
        while all((turn + 1, seat) in self.burns for seat in range(self.many)):
            turn += 1
        return turn

    def learn(self, turn, seat, burn):
        """Whether this is new; and how it goes back because of it."""
        burn = None if burn is None else tuple(burn)
        if (turn, seat) in self.burns:
            return False
        self.burns[turn, seat] = burn
        if burn is not None and turn <= self.turn:
            last = max(k for k in range(turn) if k % self.every == 0)
            self.backs += 1
            self.rerun += len(range(last + 1, self.turn + 1))
        return True

    def decide(self, burn):
        self.learn(self.own, self.number, burn)
        self.own += 1

    def may_tick(self):
        return self.turn + 1 <= self.settled() + self.lead and self.turn < MOST

    def stands(self):
        """The stands of the game that it shows, turn 0 among them."""
        stands = [start(self.many)]
        for turn in range(1, self.turn + 1):
            stands.append(flown(stands[-1], [self.burns.get((turn, seat)) for seat in range(self.many)]))
        return stands

    def known(self):
        return tuple((turn, seat, self.burns[turn, seat]) for turn in range(1, MOST + 1) for seat in range(12)
                     if (turn, seat) in self.burns)

    def asks(self):
        last = max([self.turn, *[turn for turn, _ in self.burns]])
        return tuple((turn, seat) for turn in range(1, last + 1) for seat in range(self.many)
                     if seat != self.number and (turn, seat) not in self.burns)

    def text(self):
        items = [self.number, self.many, self.lead, self.every, self.turn, self.backs, self.rerun]
        for turn, seat, burn in self.known():
            items += ["/", turn, seat, *(["-"] if burn is None else burn)]
        return " ".join(str(item) for item in items)

    def parts(self):
        """All that a seat tells of itself, and what it answers."""
        stands = self.stands()
        kept = tuple(stand for stand in stands if stand.turn % self.every == 0)
        sure = stands[min(self.settled(), self.turn)]
        return (self.number, self.many, self.lead, self.every, self.settled(), stands[-1], self.known(), kept, self.own,
                self.backs, self.rerun, self.asks(), sure, self.text())


def parts(seat):
    """The same of a Seat."""
    return (seat.number, seat.many, seat.lead, seat.every, seat.settled, seat.shown, seat.known, seat.kept, seat.own,
            seat.backs, seat.rerun, seat.asks(), seat.sure(), str(seat))


def table(source, many, turns):
    """A burn for each turn and seat: near where the runner will be, behind it, in the left half, or none."""
    burns = {}
    stand = start(many)
    for turn in range(1, turns + 1):
        x, y = stand.square
        row = []
        for seat in range(many):
            kind = source.random()
            burn = (x + source.randint(-2, 3), y + source.randint(-1, 5))
            if kind < 0.2:
                burn = None
            elif kind < 0.3:
                burn = (-source.randint(1, 5), source.randint(-3, 9))
            elif kind < 0.4:
                burn = source.choice(stand.passed)
            elif kind < 0.6:
                burn = (x, y + 2 * many)
            row.append(burn)
            burns[turn, seat] = burn
        stand = flown(stand, row)
    return burns


def idle(turn, seat):
    """A burn that changes no wall."""
    return (-1 - seat, turn) if (turn + seat) % 2 else (0, -turn - seat)
