import inspect
import itertools
import random
import unittest

import helper
from helper import LIMIT, NO_GUESTS
from ringseat import moves
from ringseat.errors import Away, Full, NoGuest, Twice
from ringseat.moves import first_come, seat_in, seat_out, seated
from ringseat.seats import is_settled, strain

RINGS = (2, 3, 4, 5, 7, 8, 16, 31, 64, 100)
WAYS = (seated, first_come)

# On 8 seats 1, 9 and 17 are at home on seat 7, 0 and 8 on seat 0, 7 on seat 1.
WRITTEN = [9, 0, 8, 7, None, None, None, 1]


def one_by_one(guests, many):
    seats = [None] * many
    for guest in guests:
        seats = seat_in(seats, guest)
    return seats


class Rows(unittest.TestCase):
    def assertRow(self, answer, asked):
        self.assertIs(type(answer), list)
        self.assertEqual(answer, asked)

    def assertRefused(self, error, ask, *handed):
        """Refused with just this, and what is handed in stays as it is."""
        kept = [list(thing) if isinstance(thing, list) else thing for thing in handed]
        with self.assertRaises(error):
            ask(*handed)
        for thing, before in zip(handed, kept):
            if isinstance(thing, list):
                self.assertEqual([id(part) for part in thing], [id(part) for part in before])


class Interface(unittest.TestCase):
    def test_names_and_arguments(self):
        asked = {
            "seat_in": ["seats", "guest"],
            "seat_out": ["seats", "guest"],
            "seated": ["guests", "many"],
            "first_come": ["guests", "many"],
        }
        for name, arguments in asked.items():
            with self.subTest(name=name):
                found = inspect.signature(getattr(moves, name)).parameters
                self.assertEqual(list(found), arguments)


class SeatIn(Rows):
    def test_written_comings(self):
        empty = [None] * 8
        self.assertRow(seat_in(empty, 0), [0] + [None] * 7)
        self.assertRow(seat_in(empty, 1), [None] * 7 + [1])
        self.assertRow(seat_in([0] + [None] * 7, 8), [0, 8] + [None] * 6)
        self.assertRow(seat_in([8] + [None] * 7, 0), [0, 8] + [None] * 6)
        self.assertRow(seat_in([None] * 7 + [1], 9), [9] + [None] * 6 + [1])
        self.assertRow(seat_in([None] * 7 + [9], 1), [9] + [None] * 6 + [1])
        self.assertRow(seat_in([0, 7] + [None] * 6, 8), [0, 8, 7] + [None] * 5)
        self.assertRow(seat_in(WRITTEN, 17), [9, 17, 0, 8, 7, None, None, 1])
        self.assertRow(seat_in(WRITTEN, 16), [9, 0, 8, 16, 7, None, None, 1])
        self.assertRow(seat_in(WRITTEN, 15), [9, 0, 8, 7, 15, None, None, 1])
        self.assertRow(seat_in(WRITTEN, 2), [9, 0, 8, 7, None, None, 2, 1])

    def test_rings_of_2_and_3(self):
        self.assertRow(seat_in([None, None], 0), [0, None])
        self.assertRow(seat_in([None, None], 1), [None, 1])
        self.assertRow(seat_in([None, None, None], 3), [None, None, 3])
        self.assertRow(seat_in([None, None, 3], 2), [3, None, 2])
        self.assertRow(seat_in([None, None, 2], 3), [3, None, 2])
        self.assertRow(seat_in([0, None, None], 3), [0, None, 3])

    def test_refusals(self):
        self.assertRefused(Twice, seat_in, list(WRITTEN), 9)
        self.assertRefused(Twice, seat_in, list(WRITTEN), 7)
        self.assertRefused(Twice, seat_in, [0, None, None], 0)
        self.assertRefused(Full, seat_in, [0, None], 1)
        self.assertRefused(Full, seat_in, [0, None], 2)
        self.assertRefused(Full, seat_in, [3, None, 2], 0)

    def test_twice_ahead_of_full(self):
        self.assertRefused(Twice, seat_in, [0, None], 0)
        self.assertRefused(Twice, seat_in, [3, None, 2], 2)
        self.assertRefused(Twice, seat_in, [3, None, 2], 3)
        for guests, many in helper.drawn_lists(1, 60, RINGS):
            if len(guests) == many - 1:
                seats = helper.seating_of(guests, many)
                for guest in guests:
                    self.assertRefused(Twice, seat_in, seats, guest)

    def test_what_is_no_guest_ahead_of_all(self):
        for seats in ([None, None], [0, None], [3, None, 2], [0, 1, None], WRITTEN):
            for thing in NO_GUESTS:
                self.assertRefused(NoGuest, seat_in, seats, thing)

    def test_until_one_seat_is_empty_and_back_to_nobody(self):
        draw = random.Random(2)
        for many in RINGS:
            for row in (helper.drawn(draw, many), helper.drawn_near(draw, many, many)):
                seats = [None] * many
                for count, guest in enumerate(row[:-1], start=1):
                    seats = seat_in(seats, guest)
                    self.assertRow(seats, helper.seating_of(row[:count], many))
                self.assertRefused(Full, seat_in, seats, row[-1])
                self.assertRefused(Away, seat_out, seats, row[-1])
                left = row[:-1]
                draw.shuffle(left)
                while left:
                    seats = seat_out(seats, left.pop())
                    self.assertRow(seats, helper.seating_of(left, many))
                self.assertRow(seats, [None] * many)

    def test_drawn_comings(self):
        draw = random.Random(3)
        for guests, many in helper.drawn_lists(3, 300, RINGS):
            if len(guests) < many - 1:
                seats = helper.seating_of(guests, many)
                for guest in helper.drawn(draw, 3) + helper.drawn_near(draw, many, 3):
                    if guest not in guests:
                        self.assertRow(seat_in(seats, guest), helper.seating_of(guests + [guest], many))

    def test_a_great_ring(self):
        draw = random.Random(4)
        guests = helper.drawn(draw, 1022)
        seats = helper.seating_of(guests, 1024)
        for guest in helper.drawn_near(draw, 1024, 3):
            full = seat_in(seats, guest)
            self.assertRow(full, helper.seating_of(guests + [guest], 1024))
            self.assertRow(seat_out(full, guest), seats)

    def test_what_is_handed_in_stays_and_what_is_given_is_new(self):
        seats = list(WRITTEN)
        one = seat_in(seats, 17)
        other = seat_in(seats, 17)
        self.assertEqual(seats, WRITTEN)
        one[0] = None
        one.append(5)
        self.assertEqual(seats, WRITTEN)
        self.assertEqual(other, [9, 17, 0, 8, 7, None, None, 1])
        seats[4] = 4
        self.assertEqual(other, [9, 17, 0, 8, 7, None, None, 1])


class SeatOut(Rows):
    def test_written_goings(self):
        self.assertRow(seat_out([0] + [None] * 7, 0), [None] * 8)
        self.assertRow(seat_out([0, 8] + [None] * 6, 0), [8] + [None] * 7)
        self.assertRow(seat_out([0, 8] + [None] * 6, 8), [0] + [None] * 7)
        self.assertRow(seat_out([9] + [None] * 6 + [1], 1), [None] * 7 + [9])
        self.assertRow(seat_out([9] + [None] * 6 + [1], 9), [None] * 7 + [1])
        self.assertRow(seat_out([0, 7] + [None] * 6, 0), [None, 7] + [None] * 6)
        self.assertRow(seat_out(WRITTEN, 1), [0, 8, 7, None, None, None, None, 9])
        self.assertRow(seat_out(WRITTEN, 8), [9, 0, 7, None, None, None, None, 1])
        self.assertRow(seat_out(WRITTEN, 7), [9, 0, 8, None, None, None, None, 1])
        # 5 is at home on seat 3 and stays there.
        self.assertRow(seat_out([0, 8, 7, 5, 13, None, None, None], 0), [8, 7, None, 5, 13, None, None, None])

    def test_rings_of_2_and_3(self):
        self.assertRow(seat_out([0, None], 0), [None, None])
        self.assertRow(seat_out([None, 1], 1), [None, None])
        self.assertRow(seat_out([3, None, 2], 2), [None, None, 3])
        self.assertRow(seat_out([3, None, 2], 3), [None, None, 2])

    def test_refusals(self):
        self.assertRefused(Away, seat_out, [None, None], 0)
        self.assertRefused(Away, seat_out, [0, None], 1)
        self.assertRefused(Away, seat_out, [0, None], 2)
        self.assertRefused(Away, seat_out, list(WRITTEN), 17)
        self.assertRefused(Away, seat_out, list(WRITTEN), 15)
        self.assertRefused(Away, seat_out, list(WRITTEN), 4)

    def test_what_is_no_guest_ahead_of_all(self):
        for seats in ([None, None], [0, None], [3, None, 2], [0, 1, None], WRITTEN):
            for thing in NO_GUESTS:
                self.assertRefused(NoGuest, seat_out, seats, thing)

    def test_drawn_goings(self):
        for guests, many in helper.drawn_lists(5, 200, RINGS):
            seats = helper.seating_of(guests, many)
            for place, guest in enumerate(guests[:12]):
                others = guests[:place] + guests[place + 1:]
                self.assertRow(seat_out(seats, guest), helper.seating_of(others, many))
            self.assertEqual(seats, helper.seating_of(guests, many))

    def test_what_is_handed_in_stays_and_what_is_given_is_new(self):
        seats = list(WRITTEN)
        one = seat_out(seats, 1)
        other = seat_out(seats, 1)
        self.assertEqual(seats, WRITTEN)
        one.clear()
        seats[4] = 4
        self.assertEqual(other, [0, 8, 7, None, None, None, None, 9])


class Lists(Rows):
    def test_written_lists(self):
        for order in itertools.permutations((0, 1, 7, 8, 9)):
            self.assertRow(seated(list(order), 8), WRITTEN)
        self.assertRow(first_come([7, 8, 0, 9, 1], 8), [8, 7, 0, 1, None, None, None, 9])
        self.assertRow(first_come([0, 8, 7, 1, 9], 8), [0, 8, 7, 9, None, None, None, 1])
        self.assertRow(first_come([9, 1, 0], 8), [1, 0] + [None] * 5 + [9])
        self.assertRow(first_come([9, 0, 1], 8), [0, 1] + [None] * 5 + [9])
        self.assertRow(seated([9, 0, 1], 8), [9, 0] + [None] * 5 + [1])

    def test_nobody(self):
        for way in WAYS:
            for many in (2, 3, 8, 1024):
                self.assertRow(way([], many), [None] * many)

    def test_rings_of_2_and_3(self):
        for way in WAYS:
            self.assertRow(way([0], 2), [0, None])
            self.assertRow(way([1], 2), [None, 1])
            self.assertRow(way([2, 3], 3), [3, None, 2])
        self.assertRow(seated([3, 2], 3), [3, None, 2])
        self.assertRow(first_come([3, 2], 3), [2, None, 3])

    def test_drawn_lists(self):
        for guests, many in helper.drawn_lists(6, 400, RINGS):
            self.assertRow(seated(guests, many), helper.seating_of(guests, many))
        for guests, many in helper.drawn_lists(7, 12, (1000, 1023, 1024)):
            self.assertRow(seated(guests, many), helper.seating_of(guests, many))

    def test_as_they_come_nobody_is_moved(self):
        for guests, many in helper.drawn_lists(8, 100, RINGS):
            seats = [None] * many
            for count, guest in enumerate(guests, start=1):
                at = helper.home_of(guest, many)
                while seats[at] is not None:
                    at = (at + 1) % many
                seats[at] = guest
                if count > len(guests) - 5:
                    self.assertRow(first_come(guests[:count], many), seats)

    def test_the_last_list_that_is_taken_and_the_first_that_is_too_long(self):
        draw = random.Random(9)
        for many in RINGS + (1024,):
            guests = helper.drawn(draw, many + 3)
            for way in WAYS:
                self.assertEqual(len(way(guests[:many - 1], many)), many)
                self.assertEqual(len(helper.sitting(way(guests[:many - 1], many))), many - 1)
                for count in (many, many + 1, many + 3):
                    self.assertRefused(Full, way, guests[:count], many)

    def test_a_guest_stands_twice(self):
        for way in WAYS:
            for guests in ([7, 7], [0, 1, 0], [5, 4, 4], [LIMIT - 1, 3, LIMIT - 1], [1, 1, 1]):
                self.assertRefused(Twice, way, guests, 8)

    def test_twice_ahead_of_full(self):
        for way in WAYS:
            for guests, many in (([0, 0], 2), ([0, 1, 0], 2), ([0, 1, 2, 3, 4, 4], 3), ([9] * 50, 8), ([4, 4, 5], 3)):
                self.assertRefused(Twice, way, guests, many)

    def test_what_is_no_guest_at_every_place(self):
        for way in WAYS:
            for thing in NO_GUESTS:
                for place in range(4):
                    guests = [0, 1, 2]
                    guests.insert(place, thing)
                    self.assertRefused(NoGuest, way, guests, 8)

    def test_what_is_no_guest_ahead_of_all(self):
        for way in WAYS:
            for thing in NO_GUESTS:
                self.assertRefused(NoGuest, way, [thing], 2)
                self.assertRefused(NoGuest, way, [thing, thing], 2)
                self.assertRefused(NoGuest, way, [0, 0, thing], 8)
                self.assertRefused(NoGuest, way, [thing, 0, 0], 8)
                self.assertRefused(NoGuest, way, [0, 1, 2, thing], 2)
                self.assertRefused(NoGuest, way, [0, 1, 1, 2, thing], 3)

    def test_what_is_handed_in_stays_and_what_is_given_is_new(self):
        for way in WAYS:
            guests = [9, 1, 8]
            one = way(guests, 8)
            other = way(guests, 8)
            kept = list(other)
            self.assertEqual(guests, [9, 1, 8])
            one.clear()
            guests.append(4)
            self.assertEqual(other, kept)
            self.assertEqual(way([9, 1, 8], 8), kept)
            nobody = way([], 8)
            nobody[0] = 0
            self.assertEqual(way([], 8), [None] * 8)

    def test_nothing_is_refused_somewhat_beyond_the_bounds(self):
        for way in WAYS:
            self.assertRow(way([], 1), [None])
            self.assertEqual(helper.sitting(way([5], 1025)), [5])


class TwoWays(unittest.TestCase):
    """[12]"""

    def check(self, guests, many):
        calm = seated(guests, many)
        other = first_come(guests, many)
        self.assertEqual(sorted(helper.sitting(other)), sorted(guests))
        self.assertEqual([guest is None for guest in calm], [guest is None for guest in other])
        together, farthest, squares = strain(calm)
        self.assertEqual(together, strain(other)[0])
        self.assertLessEqual(farthest, strain(other)[1])
        self.assertLessEqual(squares, strain(other)[2])
        return squares < strain(other)[2]

    def test_drawn_lists(self):
        fewer = sum(self.check(guests, many) for guests, many in helper.drawn_lists(10, 500, RINGS))
        self.assertGreater(fewer, 50)

    def test_great_rings(self):
        for guests, many in helper.drawn_lists(11, 8, (1000, 1024)):
            self.check(guests, many)


class WhoIsThereIsAllThatCounts(Rows):
    """[1]"""

    def neighbours(self, many):
        """Guests of neighbouring homes, two of one home among them, over the end of the ring."""
        rows = []
        for first in (0, many - 2, many - 1):
            row = helper.of_home(first % many, many, 2) + helper.of_home((first + 1) % many, many, 2, 100)
            rows.append(row + [helper.of_home((first + 2) % many, many, 1, LIMIT - 60000)[0]])
        return rows

    def test_every_order_at_once_and_one_by_one(self):
        for many in (6, 7, 8, 11, 16):
            for row in self.neighbours(many):
                asked = helper.seating_of(row, many)
                for order in itertools.permutations(row):
                    self.assertRow(seated(list(order), many), asked)
                    self.assertRow(one_by_one(order, many), asked)
                self.assertIs(is_settled(asked), True)

    def test_every_order_with_strangers_between(self):
        draw = random.Random(12)
        for many in (7, 8, 13):
            for row in self.neighbours(many):
                asked = helper.seating_of(row, many)
                strangers = helper.of_home(helper.home_of(row[0], many), many, 4, 500)
                strangers += [guest for guest in helper.drawn_near(draw, many, 6) if guest not in row + strangers]
                for order in itertools.permutations(row):
                    self.assertRow(self.with_strangers(order, many, strangers, draw), asked)

    def with_strangers(self, order, many, strangers, draw):
        seats = [None] * many
        inside = []
        for guest in order:
            came = draw.choice([stranger for stranger in strangers if stranger not in inside])
            if len(helper.sitting(seats)) < many - 2:
                seats = seat_in(seats, came)
                inside.append(came)
            while inside and (len(helper.sitting(seats)) > many - 2 or draw.random() < 0.4):
                seats = seat_out(seats, inside.pop(draw.randrange(len(inside))))
            seats = seat_in(seats, guest)
        for stranger in inside:
            seats = seat_out(seats, stranger)
        return seats

    def test_one_who_goes_and_comes_again_sits_as_before(self):
        for guests, many in helper.drawn_lists(13, 100, RINGS):
            seats = helper.seating_of(guests, many)
            for guest in guests[:10]:
                self.assertRow(seat_in(seat_out(seats, guest), guest), seats)

    def test_long_coming_and_going(self):
        draw = random.Random(14)
        for many in (2, 3, 8, 13, 64):
            pool = helper.drawn_near(draw, many, many) + helper.drawn(draw, many)
            pool = sorted(set(pool))
            seats = [None] * many
            inside = []
            for _ in range(300):
                guest = draw.choice(pool)
                if guest in inside:
                    seats = seat_out(seats, guest)
                    inside.remove(guest)
                elif len(inside) < many - 1:
                    seats = seat_in(seats, guest)
                    inside.append(guest)
                else:
                    self.assertRefused(Full, seat_in, seats, guest)
                self.assertRow(seats, helper.seating_of(inside, many))


if __name__ == "__main__":
    unittest.main()
