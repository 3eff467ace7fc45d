"""Letters on their way, and seats in one house, which send them to each other."""

from nevercaught.checks import taken_number
from nevercaught.seats import MOST_SEATS, Seat, catch_up, take_in, taken_letter


class Road:
    """Letters that are on their way, each with the number of the seat to which it goes."""

    def __init__(self):
        self.letters = ()

    def __len__(self):
        return len(self.letters)

    def put(self, number, letter):
        """Puts a letter behind all others, and tells how many there are now."""
        pair = (taken_number(number, 0, MOST_SEATS - 1, "number"), taken_letter(letter))
        self.letters = self.letters + (pair,)
        return len(self.letters)

    def take(self, index):
        """Takes the pair with this index off, and tells it."""
        at = taken_number(index, 0, len(self.letters) - 1, "index")
        pair = self.letters[at]
        self.letters = self.letters[:at] + self.letters[at + 1:]
        return pair


class House:
    """The seats of one game, and the road of their letters."""

    def __init__(self, many, lead, every):
        taken_number(many, 1, MOST_SEATS, "many")
        self.seats = tuple([Seat(number, many, lead, every) for number in range(many)])
        self.road = Road()

    def decide(self, number, burn):
        """Lets a seat decide, and puts its letter on the road to each other seat: the letter."""
        letter = seat_of(self, number).decide(burn)
        for other in range(len(self.seats)):
            if other != number:
                self.road.put(other, letter)
        return letter

    def tick(self, number):
        """The Stand of the next turn that a seat shows."""
        return seat_of(self, number).tick()

    def bring(self, index):
        """Takes a letter off the road, and lets its seat hear it: whether it told something."""
        told = self.twice(index)
        self.road.take(index)
        return told

    def twice(self, index):
        """Lets its seat hear a letter that stays on the road: whether it told something."""
        number, letter = self.road.letters[taken_number(index, 0, len(self.road) - 1, "index")]
        return self.seats[number].hears(letter)

    def lose(self, index):
        """Takes a letter off the road that nobody hears: the pair."""
        return self.road.take(index)

    def ask(self, number):
        """Puts the letters on the road for which a seat asks, as far as they are decided: how many."""
        pairs = seat_of(self, number).asks()
        decided = [pair for pair in pairs if pair in self.seats[pair[1]].book]
        for turn, other in decided:
            self.road.put(number, (turn, other, self.seats[other].book[turn, other]))
        return len(decided)

    def settle(self):
        """Brings all letters, and lets all seats ask, till no letter is put: the settled numbers."""
        put = 1
        while put > 0:
            bring_all(self)
            put = sum([self.ask(number) for number in range(len(self.seats))])
        return tuple([seat.settled for seat in self.seats])


def seat_of(house, number):
    """The seat of the house with the number that was passed."""
    return house.seats[taken_number(number, 0, len(house.seats) - 1, "number")]


def bring_all(house):
    """Brings all letters of the road, the first ones first."""
    while len(house.road) > 0:
        number, letter = house.road.take(0)
        take_in(house.seats[number], letter)
    # A seat that goes back because of many letters comes to the same game if it flies anew once, behind all of them.
    for seat in house.seats:
        catch_up(seat)
