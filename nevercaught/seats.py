"""Seats: each gives one burn a turn, hears late of those of the others, and shows the game all the same."""

from nevercaught.checks import burn_in, is_burn, is_within, taken_burn, taken_number
from nevercaught.errors import BadBurns, BadText, Misfit, TooMany, Twice
from nevercaught.stands import one_on, start
from nevercaught.texts import burn_at, burn_text, check_bar, items_of, number_at

MOST_SEATS = 12
MOST_TURNS = 60
MOST_LEAD = 20
MOST_EVERY = 20


class Seat:
    """What a seat knows of a game, and what it shows of it.

    Beside what is told of it, `book` has the burns that it knows, by turn and seat; `late` is the first turn from
    which the shown game must be flown anew, None if there is none.
    """

    def __init__(self, number, many, lead, every):
        self.number = taken_number(number, 0, MOST_SEATS - 1, "number")
        self.many = taken_number(many, 1, MOST_SEATS, "many")
        self.lead = taken_number(lead, 0, MOST_LEAD, "lead")
        self.every = taken_number(every, 1, MOST_EVERY, "every")
        if number >= many:
            raise Misfit("number")
        self.settled = 0
        self.shown = start(many)
        self.known = ()
        self.kept = (self.shown,)
        self.own = 1
        self.backs = 0
        self.rerun = 0
        self.book = {}
        self.late = None

    def __eq__(self, other):
        if not isinstance(other, Seat):
            return False
        if self.number != other.number or self.many != other.many:
            return False
        if self.lead != other.lead or self.every != other.every or self.settled != other.settled:
            return False
        if self.own != other.own or self.backs != other.backs or self.rerun != other.rerun:
            return False
        return self.known == other.known and self.shown == other.shown and self.kept == other.kept

    def __str__(self):
        numbers = (self.number, self.many, self.lead, self.every, self.shown.turn, self.backs, self.rerun)
        return " ".join([str(number) for number in numbers] + [letter_text(letter) for letter in self.known])

    @staticmethod
    def read(text):
        """The Seat whose text this is."""
        items = items_of(text)
        number = number_at(items, 0, 0, MOST_SEATS - 1)
        many = number_at(items, 1, 1, MOST_SEATS)
        lead = number_at(items, 2, 0, MOST_LEAD)
        every = number_at(items, 3, 1, MOST_EVERY)
        turn = number_at(items, 4, 0, MOST_TURNS)
        backs = number_at(items, 5, 0, None)
        rerun = number_at(items, 6, 0, None)
        letters = letters_at(items, 7)
        own = [letter[0] for letter in letters if letter[1] == number]
        if number >= many or any([letter[1] >= many for letter in letters]) or own != list(range(1, len(own) + 1)):
            raise BadText(0, len(items) - 1)
        seat = Seat(number, many, lead, every)
        for letter in letters:
            write_down(seat, letter)
        catch_up(seat)
        if turn > seat.settled + lead:
            raise BadText(0, len(items) - 1)
        show_to(seat, turn)
        seat.own = len(own) + 1
        seat.backs = backs
        seat.rerun = rerun
        return seat

    def decide(self, burn):
        """Decides its burn of the first turn for which it has not, and tells the letter."""
        letter = (self.own, self.number, taken_burn(burn, "burn"))
        if self.own > MOST_TURNS:
            raise TooMany("turns", MOST_TURNS)
        self.own += 1
        write_down(self, letter)
        catch_up(self)
        return letter

    def hears(self, letter):
        """Whether the letter told it something."""
        told = take_in(self, letter)
        if told:
            catch_up(self)
        return told

    def tick(self):
        """Shows one turn more, and tells its Stand."""
        turn = self.shown.turn + 1
        if turn > self.settled + self.lead:
            raise Misfit("lead")
        if turn > MOST_TURNS:
            raise TooMany("turns", MOST_TURNS)
        show_to(self, turn)
        return self.shown

    def asks(self):
        """The turns and seats of all burns of other seats that it lacks."""
        last = max([self.shown.turn] + [letter[0] for letter in self.known])
        others = [number for number in range(self.many) if number != self.number]
        pairs = [(turn, number) for turn in range(1, last + 1) for number in others]
        return tuple([pair for pair in pairs if pair not in self.book])

    def sure(self):
        """The Stand, in the game that it shows, of the last turn that it shows and has settled."""
        turn = min(self.settled, self.shown.turn)
        if turn == self.shown.turn:
            return self.shown
        return stands_to(self, [stand for stand in self.kept if stand.turn <= turn][-1], turn)[-1]


def taken_letter(letter):
    """The letter that was passed, as a tuple."""
    if not isinstance(letter, (list, tuple)) or len(letter) != 3:
        raise BadBurns("letter")
    turn, number, burn = letter
    if not is_within(turn, 1, MOST_TURNS) or not is_within(number, 0, MOST_SEATS - 1) or not is_burn(burn):
        raise BadBurns("letter")
    return (turn, number, burn_in(burn))


def take_in(seat, letter):
    """Whether the letter tells the seat something; it is written down, but the seat must still catch up."""
    told = taken_letter(letter)
    turn, number, burn = told
    if number >= seat.many:
        raise Misfit("seat")
    if number == seat.number and turn >= seat.own:
        raise Misfit("turn")
    if (turn, number) not in seat.book:
        write_down(seat, told)
        return True
    if seat.book[turn, number] != burn:
        raise Twice((turn, number))
    return False


def write_down(seat, letter):
    """Writes a letter into the book of the seat, and counts how it goes back because of it."""
    turn, number, burn = letter
    seat.book[turn, number] = burn
    if burn is not None and turn <= seat.shown.turn:
        seat.backs += 1
        seat.rerun += seat.shown.turn - last_kept(seat, turn)
        seat.late = turn if seat.late is None else min(seat.late, turn)


def last_kept(seat, turn):
    """The last turn ahead of this one of which the seat keeps the stand."""
    return (turn - 1) // seat.every * seat.every


def catch_up(seat):
    """Brings what the seat tells of itself in line with its book."""
    seat.known = tuple([(turn, number, seat.book[turn, number]) for turn, number in sorted(seat.book)])
    while all([(seat.settled + 1, number) in seat.book for number in range(seat.many)]):
        seat.settled += 1
    if seat.late is not None:
        turn = seat.shown.turn
        seat.kept = tuple([stand for stand in seat.kept if stand.turn < seat.late])
        seat.shown = seat.kept[-1]
        seat.late = None
        show_to(seat, turn)


def show_to(seat, turn):
    """Lets the seat show its game up to this later turn."""
    stands = stands_to(seat, seat.shown, turn)
    seat.shown = stands[-1]
    seat.kept = seat.kept + tuple([stand for stand in stands[1:] if stand.turn % seat.every == 0])


def stands_to(seat, stand, turn):
    """A stand and those behind it up to this turn, by the burns as the seat knows them."""
    stands = [stand]
    while stands[-1].turn < turn:
        stands.append(one_on(stands[-1], burns_known(seat, stands[-1].turn + 1)))
    return stands


def burns_known(seat, turn):
    """The burns of a turn as the seat knows them, None for each that it does not know."""
    return [seat.book.get((turn, number)) for number in range(seat.many)]


def letter_text(letter):
    """A bar, and behind it the items of the letter."""
    return f"/ {letter[0]} {letter[1]} {burn_text(letter[2])}"


def letters_at(items, at):
    """The letters written from this index to the end, by rising turns and seats."""
    letters = []
    least, above = 1, 0
    while at < len(items):
        check_bar(items, at)
        turn = number_at(items, at + 1, least, MOST_TURNS)
        number = number_at(items, at + 2, above if turn == least else 0, MOST_SEATS - 1)
        burn, at = burn_at(items, at + 3)
        letters.append((turn, number, burn))
        least, above = turn, number + 1
    return letters
