"""What the seats of a game know together, papers that tell it, and where two of them part."""

from nevercaught.checks import are_burns, is_integer
from nevercaught.errors import BadSeat, Misfit
from nevercaught.papers import Denial, Paper, fixed
from nevercaught.seats import Seat, burns_known
from nevercaught.stands import one_on, start


class Story(Paper):
    """The row of burns of all turns that the seats know together, and the settled number of each of them."""

    def __init__(self, burns, settled):
        Paper.__init__(self, "story", burns, settled)
        self.burns, self.settled = self.parts


class Split(Denial):
    """The turn and the seat of a burn that two seats know unlike."""

    def __init__(self, turn, seat):
        Denial.__init__(self, "split", turn, seat)
        self.turn, self.seat = self.parts


def story_of(seats):
    """The Story of the seats, or the Split of the first burn that two of them know unlike."""
    check_seats(seats)
    splits = splits_of(seats)
    if splits:
        turn, number = splits[0]
        return Split(turn, number)
    return Story(burns_told(seats), settled_by(seats))


def shows_story(seats, value):
    """Whether the value is the Story of the seats, or a Split of any burn that two of them know unlike."""
    check_seats(seats)
    splits = splits_of(seats)
    if type(value) is Split:
        return is_integer(value.turn) and is_integer(value.seat) and (value.turn, value.seat) in splits
    if type(value) is not Story or splits or not has_form(value):
        return False
    return fixed((value.burns, value.settled)) == (burns_told(seats), settled_by(seats))


def parted_at(one, other):
    """The first turn that both Seats show, and of which they show unlike stands, None if there is none."""
    check_seat(one, "one")
    check_seat(other, "other")
    if one.many != other.many:
        raise Misfit("many")
    here = there = start(one.many)
    for turn in range(1, min(one.shown.turn, other.shown.turn) + 1):
        here = one_on(here, burns_known(one, turn))
        there = one_on(there, burns_known(other, turn))
        if here != there:
            return turn
    return None


def check_seat(seat, part):
    """Raises BadSeat for what is no Seat."""
    if not isinstance(seat, Seat):
        raise BadSeat(part)


def check_seats(seats):
    """Raises BadSeat for what is no list of all Seats of a game, by their numbers."""
    if not isinstance(seats, (list, tuple)) or not seats:
        raise BadSeat("seats")
    for at, seat in enumerate(seats):
        check_seat(seat, "seats")
        if seat.number != at or seat.many != len(seats):
            raise BadSeat("seats")


def splits_of(seats):
    """The ascending list of the turns and seats of all burns that two of the seats know unlike."""
    told = {}
    splits = {}
    for seat in seats:
        for pair, burn in seat.book.items():
            if told.setdefault(pair, burn) != burn:
                splits[pair] = True
    return sorted(splits)


def burns_told(seats):
    """The row of burns from turn 1 on, as far as each burn of a turn is known to some seat."""
    told = {}
    for seat in seats:
        for pair, burn in seat.book.items():
            told[pair] = burn
    burns = []
    turn = 1
    while all([(turn, number) in told for number in range(len(seats))]):
        burns.extend([told[turn, number] for number in range(len(seats))])
        turn += 1
    return tuple(burns)


def settled_by(seats):
    """The settled numbers of the seats."""
    return tuple([seat.settled for seat in seats])


def has_form(story):
    """Whether a Story has a row of burns, and a list of integers."""
    if not are_burns(story.burns) or not isinstance(story.settled, (list, tuple)):
        return False
    return all([is_integer(number) for number in story.settled])
