"""Coming, going, and the two ways to seat a list of guests."""

from ringseat.errors import Away, Full, Twice
from ringseat.homes import ahead, carried, home
from ringseat.seats import check_guest, place_of


def seat_in(seats, guest):
    if place_of(seats, guest) is not None:
        raise Twice("this guest sits there already")
    # A settled seating keeps one seat empty.
    if seats.count(None) < 2:
        raise Full("only one seat is empty")
    answer = list(seats)
    put(answer, guest)
    return answer


def put(seats, guest):
    many = len(seats)
    moving = guest
    at = home(moving, many)
    while seats[at] is not None:
        sitting = seats[at]
        if ahead(moving, sitting, at, many):
            # Whoever gives way is carried on from here, as a newcomer would be.
            seats[at] = moving
            moving = sitting
        at = (at + 1) % many
    seats[at] = moving


def seat_out(seats, guest):
    gap = place_of(seats, guest)
    if gap is None:
        raise Away("this guest does not sit there")
    many = len(seats)
    answer = list(seats)
    at = (gap + 1) % many
    # Those behind move up, until an empty seat or one who is at home: nobody sits before its home.
    while answer[at] is not None and carried(answer[at], at, many) > 0:
        answer[gap] = answer[at]
        gap = at
        at = (at + 1) % many
    answer[gap] = None
    return answer


def check_list(guests, many):
    # Each check walks the whole list, for the refusals have an order, wherever their causes stand.
    for thing in guests:
        check_guest(thing)
    if len(set(guests)) < len(guests):
        raise Twice("a guest stands twice in the list")
    if len(guests) >= many:
        raise Full("these are too many guests for the ring")


def seated(guests, many):
    check_list(guests, many)
    seats = [None] * many
    for guest in guests:
        put(seats, guest)
    return seats


def first_come(guests, many):
    check_list(guests, many)
    seats = [None] * many
    for guest in guests:
        at = home(guest, many)
        while seats[at] is not None:
            at = (at + 1) % many
        seats[at] = guest
    return seats
