"""What a guest is, where it is at home, and who goes ahead of whom."""

FACTOR = 40503
SPREAD = 65536
HOUSE_RINGS = (8, 16, 32, 64, 128, 256)


def is_whole(thing):
    # Python counts True and False among the ints; here they are no whole numbers.
    return isinstance(thing, int) and not isinstance(thing, bool)


def is_guest(thing):
    return is_whole(thing) and 0 <= thing < 10 ** 60


def home(guest, many):
    # Both rests are needed: where many does not divide SPREAD, one alone gives another seat.
    return (guest * FACTOR + guest // SPREAD) % SPREAD % many


def carried(guest, at, many):
    # The rest takes the way over the end of the ring, where at lies before the home.
    return (at - home(guest, many)) % many


def ahead(one, other, at, many):
    way_of_one = carried(one, at, many)
    way_of_other = carried(other, at, many)
    if way_of_one == way_of_other:
        return one < other
    return way_of_one > way_of_other


def room(count):
    for seats in HOUSE_RINGS:
        # Three quarters of the seats, reckoned without a division.
        if 4 * count <= 3 * seats:
            return seats
    # No house is made for more guests than the greatest ring takes; nothing is refused here.
    return HOUSE_RINGS[-1]
