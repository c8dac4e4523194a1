import inspect
import itertools
import random
import unittest

import helper
from helper import LIMIT, NO_GUESTS
from ringseat import seats as seats_module
from ringseat.errors import NoGuest
from ringseat.seats import is_settled, looks, place_of, strain

RINGS = (2, 3, 4, 5, 7, 8, 16, 31, 64, 100, 256)

# On 8 seats a guest below 65536 is at home as far before seat 8 as its rest by 8: 1 and 9 on 7, 0 and 8 on 0, 7 on 1.
WRITTEN = [9, 0, 8, 7, None, None, None, 1]


def settled_seatings(seed, times, rings=RINGS):
    for guests, many in helper.drawn_lists(seed, times, rings):
        yield helper.seating_of(guests, many)


class Interface(unittest.TestCase):
    def test_names_and_arguments(self):
        asked = {
            "is_settled": ["seats"],
            "strain": ["seats"],
            "place_of": ["seats", "guest"],
            "looks": ["seats", "guest"],
        }
        for name, arguments in asked.items():
            with self.subTest(name=name):
                found = inspect.signature(getattr(seats_module, name)).parameters
                self.assertEqual(list(found), arguments)


class Helper(unittest.TestCase):
    """What the other tests hold to is held to the document itself."""

    def test_the_settled_seating_is_the_only_one(self):
        for many, pool in ((2, (0, 1, 2, 3)), (3, (0, 1, 2, 3, 4, 5)), (4, (0, 1, 3, 4, 5, 8)), (5, (0, 1, 5, 6, 7))):
            for count in range(many):
                for guests in itertools.combinations(pool, count):
                    row = list(guests) + [None] * (many - count)
                    found = {seats for seats in itertools.permutations(row) if helper.settled(list(seats))}
                    self.assertEqual(found, {tuple(helper.seating_of(guests, many))}, (guests, many))

    def test_written_homes(self):
        self.assertEqual([helper.home_of(guest, 8) for guest in (0, 8, 1, 9, 7, 6)], [0, 0, 7, 7, 1, 2])
        self.assertEqual([helper.home_of(guest, 3) for guest in range(6)], [0, 0, 2, 2, 1, 0])
        self.assertEqual(helper.home_of(LIMIT - 1, 1000), 32)


class IsSettled(unittest.TestCase):
    def assertSettled(self, seats, asked):
        answer = is_settled(seats)
        if answer is not asked:
            self.fail(f"is_settled({seats!r}) is {answer!r}")

    def test_written_seatings(self):
        asked = (
            ([None, None], True),
            ([None] * 3, True),
            ([None] * 1024, True),
            ([0, None], True),
            ([None, 0], False),
            ([None, 1], True),
            ([1, None], False),
            # On 3 seats 2 and 3 are at home on seat 2, and 0 and 1 on seat 0.
            ([3, None, 2], True),
            ([2, None, 3], False),
            ([None, 3, 2], False),
            ([None, None, 3], True),
            ([3, None, None], False),
            ([0, 1, None], True),
            ([1, 0, None], False),
            ([0, None, 2], True),
            ([0, None, 1], False),
            (WRITTEN, True),
            ([None] * 4 + [4, 12, 20, None], True),
            ([None] * 4 + [4, 20, 12, None], False),
            ([None] * 4 + [12, 4, 20, None], False),
            # 7 is at home on seat 1, 0 on seat 0: at seat 1 the one that is carried keeps the seat.
            ([0, 8, 7, None, None, None, None, None], True),
            ([0, 7, 8, None, None, None, None, None], False),
            ([8, 0, 7, None, None, None, None, None], False),
        )
        for seats, answer in asked:
            self.assertSettled(seats, answer)

    def test_no_seat_empty(self):
        for seats in ([0, 1], [1, 0], [0, 0], [0, 2], [0, 4, 2], [0, 1, 3], [0, 7, 6, 5, 4, 3, 2, 1]):
            self.assertSettled(seats, False)

    def test_a_guest_on_two_seats(self):
        for seats in ([0, 0, None], [0, None, 0], [None, 0, 0], [2, None, 2], [0, 8, 0] + [None] * 5):
            self.assertSettled(seats, False)

    def test_every_seating_of_small_rings(self):
        pools = (
            (2, (0, 1, 2, 3, 65536, LIMIT - 1)),
            (3, (0, 1, 2, 3, 4, 5, LIMIT - 1)),
            (4, (0, 1, 3, 4, 5, 8)),
            (5, (0, 1, 5, 6)),
        )
        for many, pool in pools:
            for seats in itertools.product((None,) + pool, repeat=many):
                self.assertSettled(list(seats), helper.settled(list(seats)))

    def test_settled_ones(self):
        for seats in settled_seatings(1, 300):
            self.assertSettled(seats, True)
        for seats in settled_seatings(2, 20, (1000, 1023, 1024)):
            self.assertSettled(seats, True)

    def test_two_seats_exchanged(self):
        draw = random.Random(3)
        for seats in settled_seatings(3, 400):
            one, other = draw.sample(range(len(seats)), 2)
            spoiled = list(seats)
            spoiled[one], spoiled[other] = seats[other], seats[one]
            self.assertSettled(spoiled, spoiled == seats)

    def test_neighbours_exchanged(self):
        for seats in settled_seatings(4, 60, (3, 5, 8, 16)):
            for at in range(len(seats)):
                spoiled = list(seats)
                spoiled[at], spoiled[at - 1] = seats[at - 1], seats[at]
                self.assertSettled(spoiled, spoiled == seats)

    def test_a_guest_set_on_another_seat_too(self):
        draw = random.Random(5)
        for seats in settled_seatings(5, 400):
            sitting = helper.sitting(seats)
            if sitting:
                guest = draw.choice(sitting)
                others = [at for at in range(len(seats)) if seats[at] != guest]
                spoiled = list(seats)
                spoiled[draw.choice(others)] = guest
                self.assertSettled(spoiled, False)

    def test_a_seat_emptied(self):
        draw = random.Random(6)
        for seats in settled_seatings(6, 400):
            left = list(seats)
            left[draw.randrange(len(seats))] = None
            self.assertSettled(left, left == helper.seating_of(helper.sitting(left), len(left)))

    def test_all_seats_filled(self):
        draw = random.Random(7)
        for seats in settled_seatings(7, 300):
            strangers = helper.drawn(draw, len(seats))
            self.assertSettled([strangers[at] if seats[at] is None else seats[at] for at in range(len(seats))], False)

    def test_all_one_seat_on_or_back(self):
        for seats in settled_seatings(8, 300):
            nobody = not helper.sitting(seats)
            self.assertSettled(seats[-1:] + seats[:-1], nobody)
            self.assertSettled(seats[1:] + seats[:1], nobody)

    def test_guests_thrown_anywhere(self):
        draw = random.Random(9)
        for guests, many in helper.drawn_lists(9, 400, (2, 3, 4, 5, 8)):
            row = guests + [None] * (many - len(guests))
            draw.shuffle(row)
            self.assertSettled(row, helper.settled(row))

    def test_far_carried_on_a_great_ring(self):
        draw = random.Random(10)
        guests = sorted({helper.drawn_of_home(draw, 1000, 1024) for _ in range(1200)})[:1023]
        seats = [None] * 1024
        for off, guest in enumerate(guests):
            seats[(1000 + off) % 1024] = guest
        self.assertSettled(seats, True)
        seats[500], seats[501] = seats[501], seats[500]
        self.assertSettled(seats, False)

    def test_what_is_handed_in_stays_as_it_is(self):
        for seats in (list(WRITTEN), [0, 0, None], [1, 0], [None] * 4):
            kept = list(seats)
            is_settled(seats)
            self.assertEqual(seats, kept)


class Strain(unittest.TestCase):
    def assertStrain(self, seats, asked):
        answer = strain(seats)
        self.assertIs(type(answer), tuple)
        self.assertEqual([type(part) for part in answer], [int] * 3)
        self.assertEqual(answer, asked, seats)

    def test_nobody_there(self):
        for many in (2, 3, 8, 1024):
            self.assertStrain([None] * many, (0, 0, 0))

    def test_written_seatings(self):
        self.assertStrain(WRITTEN, (0 + 1 + 1 + 2 + 2, 2, 0 + 1 + 1 + 4 + 4))
        self.assertStrain([0, None], (0, 0, 0))
        self.assertStrain([None, 0], (1, 1, 1))
        self.assertStrain([3, None, 2], (1, 1, 1))
        self.assertStrain([None, 3, 2], (2, 2, 4))
        # One seat before its home a guest is carried round the whole ring but one seat.
        self.assertStrain([None] * 7 + [0], (7, 7, 49))
        self.assertStrain([8, 7, 0, 1, None, None, None, 9], (0 + 0 + 2 + 4 + 0, 4, 4 + 16))

    def test_no_seat_empty_and_a_guest_on_two_seats(self):
        self.assertStrain([0, 1], (0, 0, 0))
        self.assertStrain([1, 0], (2, 1, 2))
        self.assertStrain([0, 0], (1, 1, 1))
        self.assertStrain([0, 0, 0], (3, 2, 5))
        self.assertStrain([0, None, None, 0], (3, 3, 9))

    def test_drawn_seatings(self):
        draw = random.Random(11)
        for guests, many in helper.drawn_lists(11, 300, RINGS + (1024,)):
            row = guests + [None] * (many - len(guests))
            draw.shuffle(row)
            self.assertStrain(row, helper.strain_of(row))

    def test_what_is_handed_in_stays_as_it_is(self):
        seats = list(WRITTEN)
        strain(seats)
        self.assertEqual(seats, WRITTEN)


class Look(unittest.TestCase):
    def assertLook(self, seats, guest, place, count):
        found = place_of(seats, guest)
        if place is None:
            self.assertIsNone(found, (seats, guest))
        else:
            self.assertIs(type(found), int)
            self.assertEqual(found, place, (seats, guest))
        answer = looks(seats, guest)
        self.assertIs(type(answer), int)
        self.assertEqual(answer, count, (seats, guest))

    def test_written_looks(self):
        asked = (
            # those who sit
            (1, 7, 1), (9, 0, 2), (0, 1, 2), (8, 2, 3), (7, 3, 3),
            # ended by an empty seat
            (4, None, 1), (5, None, 2), (6, None, 3), (15, None, 4),
            # ended by one who does not go ahead: carried less far, or as far and greater
            (17, None, 3), (16, None, 4), (65536 * 7, None, 3),
        )
        for guest, place, count in asked:
            self.assertLook(WRITTEN, guest, place, count)
        self.assertLook([None] * 4 + [12, 20, None, None], 4, None, 1)
        self.assertLook([None] * 4 + [4, 20, None, None], 12, None, 2)
        self.assertLook([None] * 4 + [4, 12, None, None], 20, None, 3)

    def test_nobody_there(self):
        for many in (2, 3, 8, 1024):
            for guest in (0, 1, 2, 65536, LIMIT - 1):
                self.assertLook([None] * many, guest, None, 1)

    def test_small_rings(self):
        self.assertLook([0, None], 0, 0, 1)
        self.assertLook([0, None], 2, None, 2)
        self.assertLook([0, None], 1, None, 1)
        self.assertLook([2, None], 0, None, 1)
        self.assertLook([3, None, 2], 3, 0, 2)
        self.assertLook([3, None, 2], 0, None, 2)

    def test_against_the_sentence(self):
        draw = random.Random(12)
        for guests, many in helper.drawn_lists(12, 300, RINGS):
            seats = helper.seating_of(guests, many)
            strangers = helper.drawn(draw, 10) + helper.drawn_near(draw, many, 10)
            strangers += [guest + step for guest in guests[:10] for step in (-1, 1, many, 65536 * many)]
            for guest in guests + [stranger for stranger in strangers if 0 <= stranger < LIMIT]:
                place = seats.index(guest) if guest in seats else None
                self.assertLook(seats, guest, place, len(helper.looked_at(seats, guest)))

    def test_never_more_than_two_above_the_farthest_carry(self):
        reached = 0
        draw = random.Random(13)
        for guests, many in helper.drawn_lists(13, 300, (2, 3, 5, 8, 16)):
            seats = helper.seating_of(guests, many)
            bound = helper.strain_of(seats)[1] + 2
            for seat in range(many):
                count = looks(seats, helper.drawn_of_home(draw, seat, many))
                self.assertLessEqual(count, bound)
                reached += count == bound
        self.assertGreater(reached, 0)

    def test_on_a_great_ring(self):
        for guests, many in helper.drawn_lists(14, 6, (1000, 1023, 1024)):
            seats = helper.seating_of(guests, many)
            for guest in guests[:50]:
                self.assertLook(seats, guest, seats.index(guest), len(helper.looked_at(seats, guest)))

    def test_what_is_no_guest(self):
        for seats in ([None, None], [0, None], [3, None, 2], WRITTEN, [None] * 1024):
            for thing in NO_GUESTS:
                for ask in (place_of, looks):
                    with self.assertRaises(NoGuest):
                        ask(seats, thing)

    def test_what_is_handed_in_stays_as_it_is(self):
        seats = list(WRITTEN)
        for guest in (0, 1, 9, 16, 4):
            place_of(seats, guest)
            looks(seats, guest)
        with self.assertRaises(NoGuest):
            place_of(seats, [1])
        self.assertEqual(seats, WRITTEN)


if __name__ == "__main__":
    unittest.main()
