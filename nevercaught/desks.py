"""A desk, at which games are played by lines, kept by names, and taken back."""

from nevercaught.errors import BadLine, BadText, FlightError, Misfit, NoName, Nothing, TooMany, Twice
from nevercaught.films import Film
from nevercaught.flights import padded
from nevercaught.pictures import picture
from nevercaught.stands import MOST_PACE, one_on, start
from nevercaught.texts import DIGITS, burns_at, check_end, integer_at, items_of, number_at, square_text

LETTERS = "abcdefghijklmnopqrstuvwxyz"
MOST_SIGNS = 12


class Play:
    """A game that a desk keeps: its Film, and its Stands from turn 0 on."""

    def __init__(self, film, stands):
        self.film = film
        self.stands = stands


class Reply:
    """The answer to a line; and, for one that changes a game, its name and the Play kept from now on, None for none."""

    def __init__(self, answer, name=None, play=None):
        self.answer = answer
        self.name = name
        self.play = play


class Deed:
    """A line that changed what is kept by a name, and what was kept by it before and after."""

    def __init__(self, line, name, before, after):
        self.line = line
        self.name = name
        self.before = before
        self.after = after


def reply_open(games, items):
    """Begins a game without turns."""
    name = name_at(items, 1)
    pace = number_at(items, 2, 1, MOST_PACE) if len(items) > 2 else 1
    check_end(items, 3)
    check_new(games, name)
    return Reply("opened", name, Play(Film((), pace), (start(pace),)))


def reply_burn(games, items):
    """Adds a turn to a game."""
    name = name_at(items, 1)
    burns = burns_at(items, 2)
    play = play_of(games, name)
    film = play.film
    if len(burns) > film.pace:
        raise TooMany("burns", film.pace)
    stand = one_on(play.stands[-1], burns)
    longer = film.joined(Film(padded(burns, film.pace), film.pace))
    return Reply(square_text(stand.square), name, Play(longer, play.stands + (stand,)))


def reply_copy(games, items):
    """Begins a game with all that another one has."""
    name = name_at(items, 1)
    other = name_at(items, 2)
    check_end(items, 3)
    check_new(games, name)
    return Reply("copied", name, play_of(games, other))


def reply_cut(games, items):
    """Leaves the first turns of a game."""
    name = name_at(items, 1)
    turn = integer_at(items, 2)
    check_end(items, 3)
    play = play_of(games, name)
    check_turn(play, turn)
    if turn == play.film.turns:
        return Reply("cut")
    return Reply("cut", name, Play(play.film.cut(turn), play.stands[:turn + 1]))


def reply_film(games, items):
    """Tells the text of a game."""
    name = name_at(items, 1)
    check_end(items, 2)
    return Reply(str(play_of(games, name).film))


def reply_where(games, items):
    """Tells where the runner stands."""
    name = name_at(items, 1)
    turn = integer_at(items, 2)
    check_end(items, 3)
    return Reply(square_text(stand_of(games, name, turn).square))


def reply_show(games, items):
    """Tells a picture."""
    name = name_at(items, 1)
    turn = integer_at(items, 2)
    low = (integer_at(items, 3), integer_at(items, 4))
    high = (integer_at(items, 5), integer_at(items, 6))
    check_end(items, 7)
    return Reply(" ".join(picture(stand_of(games, name, turn), low, high)))


def reply_drop(games, items):
    """Keeps a game no more."""
    name = name_at(items, 1)
    check_end(items, 2)
    play_of(games, name)
    return Reply("dropped", name)


REPLIES = {
    "open": reply_open,
    "burn": reply_burn,
    "copy": reply_copy,
    "cut": reply_cut,
    "film": reply_film,
    "where": reply_where,
    "show": reply_show,
    "drop": reply_drop,
}


class Desk:
    """Games by their names, the deeds that stand, and those that were taken back, the last one last."""

    def __init__(self):
        self.games = {}
        self.deeds = []
        self.undone = []

    @staticmethod
    def read(lines):
        """A new desk that was told these lines."""
        if not isinstance(lines, (list, tuple)) or not all([isinstance(line, str) for line in lines]):
            raise BadText(0, 0)
        desk = Desk()
        for number, line in enumerate(lines):
            try:
                desk.tell(line)
            except FlightError as error:
                raise BadLine(number, error) from None
        return desk

    def tell(self, line):
        """Does what the line tells, and answers it."""
        items = items_of(line)
        if items[0] not in REPLIES:
            raise BadText(0, 0)
        ask = REPLIES[items[0]]
        reply = ask(self.games, items)
        if reply.name is not None:
            deed = Deed(line, reply.name, self.games.get(reply.name), reply.play)
            self.deeds.append(deed)
            self.undone = []
            keep(self.games, deed.name, deed.after)
        return reply.answer

    def names(self):
        """All names that are kept."""
        return tuple(sorted(self.games))

    def kept(self, name):
        """The Film of a game."""
        return play_of(self.games, name).film

    def back(self):
        """Takes the last deed back."""
        if not self.deeds:
            raise Nothing()
        deed = self.deeds.pop()
        self.undone.append(deed)
        keep(self.games, deed.name, deed.before)

    def again(self):
        """Does the deed again that was taken back last."""
        if not self.undone:
            raise Nothing()
        deed = self.undone.pop()
        self.deeds.append(deed)
        keep(self.games, deed.name, deed.after)

    def done(self):
        """The lines of all deeds that stand."""
        return tuple([deed.line for deed in self.deeds])


def keep(games, name, play):
    """Keeps the Play by this name, None being none."""
    if play is None:
        del games[name]
    else:
        games[name] = play


def name_at(items, at):
    """The name with this index."""
    if at >= len(items) or not is_name(items[at]):
        raise BadText(0, at)
    return items[at]


def is_name(item):
    """Whether the item is a name for a game."""
    if not 1 <= len(item) <= MOST_SIGNS or item[0] not in LETTERS:
        return False
    return all([sign in LETTERS or sign in DIGITS for sign in item])


def check_new(games, name):
    """Raises Twice for a name that is kept."""
    if name in games:
        raise Twice(name)


def play_of(games, name):
    """The Play that is kept by this name."""
    if not isinstance(name, str) or name not in games:
        raise NoName(name)
    return games[name]


def check_turn(play, turn):
    """Raises Misfit for no number of a turn of the game."""
    if not 0 <= turn <= play.film.turns:
        raise Misfit("turn")


def stand_of(games, name, turn):
    """The Stand of a turn of a game."""
    play = play_of(games, name)
    check_turn(play, turn)
    return play.stands[turn]
