"""The document's sentences told again, slowly and in another way than the package does, for the tests to hold to."""
import random

LIMIT = 10 ** 60


class Odd:
    """Equal to everything, and with nothing to be kept by in a set or dict."""
    __hash__ = None

    def __eq__(self, other):
        return True


# What is no guest, of many kinds.
NO_GUESTS = (
    True, False, None, "", "0", "7", "guest", [], [7], [[7]], [None], {}, {7: 7}, {"guest": [7]}, (), (7,), (7, [8]),
    (None, {}), ((),), -1, -2, -65536, -LIMIT, LIMIT, LIMIT + 1, LIMIT * 65536, 10 ** 5000, -(10 ** 5000), 0.0, 7.0,
    -1.5, float("nan"), float("inf"), 7j, b"7", bytearray(b"7"), set(), {7}, frozenset({7}), range(7), object(), int,
    len, ..., ValueError("7"), Odd(),
)


def home_of(guest, many):
    """[3], by the two lowest digits to the base 65536: the higher ones fall out."""
    low = guest & 0xFFFF
    high = (guest >> 16) & 0xFFFF
    return ((low * 40503 + high) & 0xFFFF) % many


def way_to(guest, at, many):
    """[4]: the way on from the home, over the end of the ring if need be."""
    start = home_of(guest, many)
    return at - start if at >= start else many - start + at


def goes_ahead(one, other, at, many):
    """[5]"""
    return one != other and (-way_to(one, at, many), one) < (-way_to(other, at, many), other)


def settled(seats):
    """[6], each guest and each seat from its home on."""
    many = len(seats)
    if all(guest is not None for guest in seats):
        return False
    for at, guest in enumerate(seats):
        if guest is None:
            continue
        seat = home_of(guest, many)
        while seat != at:
            if seats[seat] is None or not goes_ahead(seats[seat], guest, seat, many):
                return False
            seat = 0 if seat == many - 1 else seat + 1
    return True


def seating_of(guests, many):
    """The one settled seating of [6]: cut at an empty seat of the ring, all sit down in the order of their homes."""
    taken = set()
    for guest in guests:
        at = home_of(guest, many)
        while at in taken:
            at = (at + 1) % many
        taken.add(at)
    cut = min(set(range(many)) - taken)
    seats = [None] * many
    last = 0
    for off, guest in sorted(((home_of(guest, many) - cut) % many, guest) for guest in guests):
        last = max(last + 1, off)
        seats[(cut + last) % many] = guest
    return seats


def strain_of(seats):
    """[7]"""
    ways = [way_to(guest, at, len(seats)) for at, guest in enumerate(seats) if guest is not None]
    return (sum(ways), max([0] + ways), sum(way ** 2 for way in ways))


def looked_at(seats, guest):
    """[8]: the numbers of the seats that a look goes over, the one with which it ends behind the others."""
    many = len(seats)
    gone = [home_of(guest, many)]
    while True:
        at = gone[-1]
        if seats[at] is None or seats[at] == guest or not goes_ahead(seats[at], guest, at, many):
            return gone
        gone.append((at + 1) % many)


def sitting(seats):
    return [guest for guest in seats if guest is not None]


def of_home(seat, many, count, start=0):
    """So many guests, from start on, who are at home on the seat."""
    found = []
    guest = start
    while len(found) < count:
        if home_of(guest, many) == seat:
            found.append(guest)
        guest += 1
    return found


def drawn_guest(draw):
    bound = draw.choice((30, 1000, 65536, 65536 * 9, 2 ** 40, LIMIT))
    guest = draw.randrange(bound)
    return LIMIT - 1 - guest if draw.random() < 0.2 else guest


def drawn(draw, count):
    """So many unlike guests, in no order."""
    found = {}
    while len(found) < count:
        found[drawn_guest(draw)] = True
    row = list(found)
    draw.shuffle(row)
    return row


def drawn_of_home(draw, seat, many):
    """A guest who is at home on the seat: a sum of [3] is chosen, and the digits to the base 65536 to fit it."""
    asked = seat + many * draw.randrange((65535 - seat) // many + 1)
    low = draw.randrange(65536)
    high = (asked - low * 40503) % 65536
    rest = draw.choice((0, 1, draw.randrange(65536), draw.randrange(LIMIT // 2 ** 32)))
    return low + 65536 * high + 2 ** 32 * rest


def drawn_near(draw, many, count):
    """So many unlike guests whose homes lie close together, often at the end of the ring."""
    width = draw.randint(1, max(1, many // 3))
    first = draw.choice((0, many - 1, many - width, draw.randrange(many)))
    found = {}
    while len(found) < count:
        found[drawn_of_home(draw, (first + draw.randrange(width)) % many, many)] = True
    row = list(found)
    draw.shuffle(row)
    return row


def drawn_lists(seed, times, rings):
    """Lists of guests with the number of seats, from nobody up to one less than there are seats."""
    draw = random.Random(seed)
    for _ in range(times):
        many = draw.choice(rings)
        count = draw.choice((0, 1, many // 2, many - 1, draw.randrange(many)))
        near = draw.random() < 0.5
        yield (drawn_near(draw, many, count) if near else drawn(draw, count)), many
