"""A house: guests on a ring that grows and falls with their number."""

from ringseat.errors import Away, Full, NoSize, Twice
from ringseat.homes import is_whole, room
from ringseat.moves import seat_in, seat_out, seated
from ringseat.seats import place_of

GREATEST_MOST = 192


def all_in(seats):
    return [guest for guest in seats if guest is not None]


# The ring hangs on the number of guests alone, so growing and falling are one thing.
def fitted(seats):
    present = all_in(seats)
    many = room(len(present))
    return seats if many == len(seats) else seated(present, many)


class House:
    def __init__(self, most=96):
        if not is_whole(most) or not 0 <= most <= GREATEST_MOST:
            raise NoSize("a house is made for 0 to 192 guests")
        self.most = most
        self.seats = [None] * room(0)

    def come(self, guest):
        if self.seat_of(guest) is not None:
            raise Twice("this guest is there already")
        if self.many() >= self.most:
            raise Full("the house is made for no more guests")
        # A quarter of the ring is empty, so there is always a seat for one more ahead of the fitting.
        self.seats = fitted(seat_in(self.seats, guest))
        return self.seat_of(guest)

    def go(self, guest):
        at = self.seat_of(guest)
        if at is None:
            raise Away("this guest is not there")
        self.seats = fitted(seat_out(self.seats, guest))
        return at

    def seat_of(self, guest):
        return place_of(self.seats, guest)

    def row(self):
        return list(self.seats)

    def guests(self):
        return sorted(all_in(self.seats))

    def many(self):
        return len(all_in(self.seats))
