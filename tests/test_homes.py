import inspect
import unittest

from helper import LIMIT, home_of
from ringseat import homes
from ringseat.homes import ahead, carried, home, is_guest, room

RINGS = (2, 3, 5, 7, 8, 10, 16, 31, 64, 100, 256, 333, 1000, 1023, 1024)


def some_guests():
    """Small ones, those round multiples of 65536, and those near 10 ** 60."""
    guests = list(range(40))
    for times in (1, 2, 3, 1000, 65535, 65536, 65537, 65536 ** 2, 65536 ** 5 + 7):
        guests += [times * 65536 + off for off in (-2, -1, 0, 1, 2)]
    top = LIMIT // 65536 * 65536
    guests += [top - 1, top, top + 1]
    guests += [LIMIT - off for off in range(1, 8)]
    return guests


def carried_by_steps(guest, at, many):
    """[4] again, going on seat by seat."""
    seat = home_of(guest, many)
    steps = 0
    while seat != at:
        seat = 0 if seat == many - 1 else seat + 1
        steps += 1
    return steps


class Kinds(unittest.TestCase):
    def assertWhole(self, answer, asked):
        self.assertIs(type(answer), int)
        self.assertEqual(answer, asked)


class Interface(unittest.TestCase):
    def test_names_and_arguments(self):
        asked = {
            "is_guest": ["thing"],
            "home": ["guest", "many"],
            "carried": ["guest", "at", "many"],
            "ahead": ["one", "other", "at", "many"],
            "room": ["count"],
        }
        for name, arguments in asked.items():
            with self.subTest(name=name):
                found = inspect.signature(getattr(homes, name)).parameters
                self.assertEqual(list(found), arguments)


class IsGuest(unittest.TestCase):
    def test_guests(self):
        for thing in (0, 1, 2, 65535, 65536, 2 ** 64, LIMIT // 2, LIMIT - 2, LIMIT - 1):
            with self.subTest(thing=thing):
                self.assertIs(is_guest(thing), True)

    def test_numbers_out_of_bounds(self):
        for thing in (-1, -2, -65536, -LIMIT, 1 - LIMIT, LIMIT, LIMIT + 1, 10 ** 61, 10 ** 5000, -(10 ** 5000)):
            with self.subTest(bits=thing.bit_length(), below=thing < 0):
                self.assertIs(is_guest(thing), False)

    def test_truths(self):
        self.assertIs(is_guest(True), False)
        self.assertIs(is_guest(False), False)

    def test_other_kinds(self):
        things = (
            None, "", "0", "7", "guest", [], [7], (), (7,), {}, {7: 7}, 0.0, 7.0, float("nan"), float("inf"),
            7j, b"", b"7", bytearray(b"7"), set(), {7}, frozenset({7}), range(7), object(), int, bool, len,
            is_guest, ..., NotImplemented, ValueError("7"), [[7]], [None], (True,), {"guest": 7},
        )
        for thing in things:
            with self.subTest(thing=thing):
                self.assertIs(is_guest(thing), False)

    def test_what_is_asked_of_stays_as_it_is(self):
        things = [[7, [8]], {7: [8]}]
        for thing in things:
            is_guest(thing)
        self.assertEqual(things, [[7, [8]], {7: [8]}])


class Home(Kinds):
    def test_written_answers(self):
        asked = (
            # guest, many, home; the sum's rest by 65536 stands behind
            (0, 2, 0),                  # 0
            (0, 1024, 0),               # 0
            (1, 2, 1),                  # 40503
            (1, 8, 7),                  # 40503
            (1, 1000, 503),             # 40503
            (1, 1024, 567),             # 40503
            (2, 1000, 470),             # 81006 - 65536 = 15470
            (3, 1000, 973),             # 121509 - 65536 = 55973
            (65535, 1000, 33),          # 65536 - 40503 = 25033
            (65535, 1024, 457),         # 25033
            (65536, 2, 1),              # 1
            (65536, 1000, 1),           # 1
            (65537, 1000, 504),         # 40504
            (131071, 1000, 34),         # 25034
            (131072, 1000, 2),          # 2
            (131073, 1000, 505),        # 40505
            (65536 * 65535, 1000, 535),  # 65535
            (65536 * 65535, 1024, 1023),  # 65535
            (65536 * 65535 + 1, 1000, 502),  # 65535 + 40503 - 65536 = 40502
            (65536 * 65536, 1000, 0),   # 65536 - 65536 = 0
            (65536 * 65536, 3, 0),      # 0
        )
        for guest, many, seat in asked:
            with self.subTest(guest=guest, many=many):
                self.assertWhole(home(guest, many), seat)

    def test_written_answers_near_the_greatest_guest(self):
        # 10 ** 60 is a multiple of 2 ** 60, so 1 less has 65535 as both of its lowest digits:
        # 65535 * 40503 and 65535 have the rest 65536 - 40503 - 1 = 25032.
        self.assertWhole(home(LIMIT - 1, 1000), 32)
        self.assertWhole(home(LIMIT - 1, 1024), 456)
        self.assertWhole(home(LIMIT - 1, 3), 0)
        # 2 less: 65536 * 2 - 2 * 40503 - 1 = 50065.
        self.assertWhole(home(LIMIT - 2, 1000), 65)
        self.assertWhole(home(LIMIT - 2, 7), 1)

    def test_against_the_digits_on_every_ring(self):
        for many in range(2, 1025):
            for guest in some_guests():
                seat = home(guest, many)
                if type(seat) is not int or seat != home_of(guest, many):
                    self.fail(f"home({guest}, {many}) is {seat!r}")

    def test_the_home_is_a_seat_of_the_ring(self):
        for many in RINGS:
            for guest in some_guests():
                self.assertIn(home(guest, many), range(many))

    def test_nothing_is_refused_somewhat_beyond_the_bounds(self):
        for guest, many in ((LIMIT, 8), (LIMIT + 1, 1024), (7, 1025), (7, 1)):
            home(guest, many)


class Carried(Kinds):
    def test_written_answers(self):
        asked = (
            # guest 1 is at home on seat 7 of 8, guest 65536 on seat 1, guest 0 on seat 0
            (1, 7, 8, 0), (1, 0, 8, 1), (1, 1, 8, 2), (1, 6, 8, 7),
            (65536, 1, 8, 0), (65536, 2, 8, 1), (65536, 7, 8, 6), (65536, 0, 8, 7),
            (0, 0, 8, 0), (0, 1, 8, 1), (0, 7, 8, 7),
            (0, 0, 2, 0), (0, 1, 2, 1), (1, 1, 2, 0), (1, 0, 2, 1),
            (1, 503, 1000, 0), (1, 502, 1000, 999), (1, 504, 1000, 1), (1, 0, 1000, 497), (1, 999, 1000, 496),
            (LIMIT - 1, 456, 1024, 0), (LIMIT - 1, 455, 1024, 1023), (LIMIT - 1, 0, 1024, 568),
        )
        for guest, at, many, way in asked:
            with self.subTest(guest=guest, at=at, many=many):
                self.assertWhole(carried(guest, at, many), way)

    def test_at_home_on_from_it_and_before_it(self):
        for many in RINGS:
            for guest in some_guests():
                seat = home_of(guest, many)
                with self.subTest(guest=guest, many=many):
                    self.assertWhole(carried(guest, seat, many), 0)
                    self.assertWhole(carried(guest, (seat + 1) % many, many), 1)
                    self.assertWhole(carried(guest, (seat - 1) % many, many), many - 1)

    def test_against_going_step_by_step(self):
        for many in (2, 3, 7, 8, 31, 64):
            for guest in some_guests():
                for at in range(many):
                    way = carried(guest, at, many)
                    if type(way) is not int or way != carried_by_steps(guest, at, many):
                        self.fail(f"carried({guest}, {at}, {many}) is {way!r}")

    def test_each_way_stands_for_one_seat(self):
        for many in RINGS:
            for guest in (0, 1, 65535, 65536, LIMIT - 1):
                ways = [carried(guest, at, many) for at in range(many)]
                self.assertEqual(sorted(ways), list(range(many)))

    def test_nothing_is_refused_somewhat_beyond_the_bounds(self):
        for guest, at, many in ((LIMIT, 0, 8), (7, 8, 8), (7, 0, 1025)):
            carried(guest, at, many)


class Ahead(unittest.TestCase):
    def test_who_is_carried_farther_goes_ahead(self):
        # On 8 seats guest 0 is at home on 0, 65536 on 1, 1 on 7.
        for one, other, at in ((0, 65536, 1), (0, 65536, 7), (65536, 0, 0), (1, 0, 0), (1, 0, 6), (0, 1, 7),
                               (1, 65536, 1), (1, 65536, 6), (65536, 1, 7), (65536, 1, 0)):
            with self.subTest(one=one, other=other, at=at):
                self.assertIs(ahead(one, other, at, 8), True)
                self.assertIs(ahead(other, one, at, 8), False)

    def test_of_those_carried_as_far_the_smaller_goes_ahead(self):
        # 0, 8 and 65536 * 8 are all at home on seat 0 of 8; so it is at every seat.
        for at in range(8):
            for one, other in ((0, 8), (8, 65536 * 8), (0, 65536 * 8), (0, 65536 ** 2)):
                with self.subTest(one=one, other=other, at=at):
                    self.assertIs(ahead(one, other, at, 8), True)
                    self.assertIs(ahead(other, one, at, 8), False)

    def test_the_smaller_counts_only_where_both_are_carried_as_far(self):
        # The greatest guest is at home on seat 0 of 8 (25032 is a multiple of it), as guest 0 is.
        self.assertIs(ahead(0, LIMIT - 1, 3, 8), True)
        self.assertIs(ahead(LIMIT - 1, 0, 3, 8), False)
        self.assertIs(ahead(LIMIT - 1, 65536, 3, 8), True)
        self.assertIs(ahead(65536, LIMIT - 1, 3, 8), False)

    def test_no_guest_goes_ahead_of_itself(self):
        for many in (2, 3, 8, 31):
            for guest in some_guests():
                for at in range(many):
                    if ahead(guest, guest, at, many) is not False:
                        self.fail(f"{guest} goes ahead of itself at {at} of {many}")

    def test_against_going_step_by_step(self):
        guests = [0, 1, 2, 3, 8, 11, 65535, 65536, 65537, 131072, 65536 * 8, LIMIT - 2, LIMIT - 1]
        for many in (2, 3, 7, 8, 16):
            for at in range(many):
                ways = {guest: carried_by_steps(guest, at, many) for guest in guests}
                row = sorted(guests, key=lambda guest: (-ways[guest], guest))
                for place, one in enumerate(row):
                    for other_place, other in enumerate(row):
                        with self.subTest(one=one, other=other, at=at, many=many):
                            self.assertIs(ahead(one, other, at, many), place < other_place)

    def test_nothing_is_refused_somewhat_beyond_the_bounds(self):
        ahead(LIMIT, 7, 0, 8)
        ahead(7, LIMIT, 8, 8)


class Room(Kinds):
    def test_every_count(self):
        last_counts = ((6, 8), (12, 16), (24, 32), (48, 64), (96, 128), (192, 256))
        asked = []
        for last, seats in last_counts:
            while len(asked) <= last:
                asked.append(seats)
        self.assertEqual(len(asked), 193)
        for count, seats in enumerate(asked):
            with self.subTest(count=count):
                self.assertWhole(room(count), seats)

    def test_where_a_ring_is_just_filled_enough_and_just_too_small(self):
        for count, seats in ((0, 8), (6, 8), (7, 16), (12, 16), (13, 32), (24, 32), (25, 64), (48, 64),
                             (49, 128), (96, 128), (97, 256), (192, 256)):
            with self.subTest(count=count):
                self.assertWhole(room(count), seats)

    def test_nothing_is_refused_somewhat_beyond_the_bounds(self):
        for count in (-1, 193, 200, 256, 257):
            room(count)


if __name__ == "__main__":
    unittest.main()
