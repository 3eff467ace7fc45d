"""Films: rows of burns, each with a pace, that tell a whole game."""

from nevercaught.checks import taken_burns, taken_number
from nevercaught.errors import BadBurns, Misfit
from nevercaught.flights import flown_by, padded, turns_in, where
from nevercaught.pictures import picture
from nevercaught.stands import MOST_PACE, taken_pace
from nevercaught.texts import burn_text, burns_at, check_word, items_of, number_at


class Film:
    """A row of burns, a pace, and how many turns they make."""

    def __init__(self, burns, pace=1):
        self.burns = taken_burns(burns, "burns")
        self.pace = taken_pace(pace)
        self.turns = len(turns_in(self.burns, self.pace))

    def __eq__(self, other):
        return isinstance(other, Film) and self.burns == other.burns and self.pace == other.pace

    def __str__(self):
        words = ["burns"] if self.pace == 1 else ["pace", str(self.pace), "burns"]
        row = " / ".join([burn_text(burn) for burn in self.burns])
        return " ".join(words + [row] if self.burns else words)

    @staticmethod
    def read(text):
        """The Film whose text this is."""
        items = items_of(text)
        pace, at = 1, 0
        if items[0] == "pace":
            pace, at = number_at(items, 1, 2, MOST_PACE), 2
        check_word(items, at, "burns")
        if len(items) == at + 1:
            return Film((), pace)
        return Film(burns_at(items, at + 1), pace)

    def cut(self, turns):
        """The Film of the first turns."""
        taken_number(turns, 0, self.turns, "turns")
        return Film(self.burns[:turns * self.pace], self.pace)

    def joined(self, other):
        """The Film of its burns, and those of another one behind them."""
        check_film(other, "other")
        if self.pace != other.pace:
            raise Misfit("pace")
        return Film(padded(self.burns, self.turns * self.pace) + other.burns, self.pace)

    def stand(self, turn):
        """The Stand of a turn."""
        taken_number(turn, 0, self.turns, "turn")
        return stands_in(self.cut(turn))[-1]

    def frames(self, low, high):
        """The pictures of all turns in a box."""
        return tuple([picture(stand, low, high) for stand in stands_in(self)])


def parting(one, other):
    """The first turn behind which the runner stands on unlike squares in two Films, None if there is none."""
    check_film(one, "one")
    check_film(other, "other")
    here = where(one.burns, one.pace)
    there = where(other.burns, other.pace)
    for turn in range(min(len(here), len(there))):
        if here[turn] != there[turn]:
            return turn
    return None


def check_film(film, part):
    """Raises BadBurns for what is no Film."""
    if not isinstance(film, Film):
        raise BadBurns(part)


def stands_in(film):
    """The Stands of all turns of a Film, turn 0 among them."""
    return flown_by(turns_in(film.burns, film.pace), film.pace)[0]
