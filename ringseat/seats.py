"""What a seating tells: whether it is settled, how far its guests are carried, and where one sits."""

from ringseat.errors import NoGuest
from ringseat.homes import ahead, carried, home, is_guest


def check_guest(thing):
    if not is_guest(thing):
        # The thing is not shown: not everything that may be handed in can be written out.
        raise NoGuest("this is no guest")


def is_settled(seats):
    return None in seats and all([is_well_seated(seats, at) for at in range(len(seats))])


def is_well_seated(seats, at):
    many = len(seats)
    guest = seats[at]
    if guest is None or carried(guest, at, many) == 0:
        return True
    before = (at - 1) % many
    # One step back is enough where all seats are asked: who goes ahead of the one there, one seat
    # farther back, goes ahead of this guest too, and so on back to its home.
    return seats[before] is not None and ahead(seats[before], guest, before, many)


def strain(seats):
    many = len(seats)
    ways = [carried(guest, at, many) for at, guest in enumerate(seats) if guest is not None]
    return (sum(ways), max(ways, default=0), sum([way * way for way in ways]))


# The seat with which the look ends is not among those it passes.
def passed(seats, guest):
    many = len(seats)
    steps = 0
    at = home(guest, many)
    # No guest goes ahead of itself, so the look ends where the guest sits, too.
    while seats[at] is not None and ahead(seats[at], guest, at, many):
        steps += 1
        at = (at + 1) % many
    return steps


def place_of(seats, guest):
    check_guest(guest)
    many = len(seats)
    at = (home(guest, many) + passed(seats, guest)) % many
    return at if seats[at] == guest else None


def looks(seats, guest):
    check_guest(guest)
    return passed(seats, guest) + 1
