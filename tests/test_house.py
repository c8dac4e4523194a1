import inspect
import itertools
import random
import unittest

import helper
from helper import LIMIT, NO_GUESTS
from ringseat.errors import Away, Full, NoGuest, NoSize, Twice
from ringseat.house import House

SIZES = (0, 1, 6, 7, 12, 13, 24, 25, 48, 49, 96, 97, 192)


def ring_for(count):
    """The fewest seats of [13] of which so many fill no more than three quarters."""
    return [many for many in (8, 16, 32, 64, 128, 256) if count * 100 <= many * 75][0]


class Houses(unittest.TestCase):
    def assertHouse(self, house, guests):
        """All that a house tells, with just these guests in it."""
        row = house.row()
        self.assertIs(type(row), list)
        self.assertEqual(row, helper.seating_of(guests, ring_for(len(guests))))
        answer = house.guests()
        self.assertIs(type(answer), list)
        self.assertEqual(answer, sorted(guests))
        self.assertIs(type(house.many()), int)
        self.assertEqual(house.many(), len(guests))

    def assertSeats(self, house):
        row = house.row()
        for guest in house.guests():
            self.assertIs(type(house.seat_of(guest)), int)
            self.assertEqual(house.seat_of(guest), row.index(guest))

    def assertRefused(self, house, error, ask, thing):
        row, guests = house.row(), house.guests()
        with self.assertRaises(error):
            ask(thing)
        self.assertEqual(house.row(), row)
        self.assertEqual(house.guests(), guests)
        self.assertEqual(house.many(), len(guests))

    def come(self, house, guest, guests):
        """The guest comes; the seat is told on the ring as it is behind that."""
        at = house.come(guest)
        guests.append(guest)
        self.assertIs(type(at), int)
        self.assertEqual(at, helper.seating_of(guests, ring_for(len(guests))).index(guest))
        self.assertHouse(house, guests)

    def go(self, house, guest, guests):
        """The guest goes; the seat is told on the ring as it was ahead of it."""
        asked = helper.seating_of(guests, ring_for(len(guests))).index(guest)
        at = house.go(guest)
        guests.remove(guest)
        self.assertIs(type(at), int)
        self.assertEqual(at, asked)
        self.assertHouse(house, guests)


class Interface(unittest.TestCase):
    def test_names_and_arguments(self):
        asked = {"come": ["guest"], "go": ["guest"], "seat_of": ["guest"], "row": [], "guests": [], "many": []}
        for name, arguments in asked.items():
            with self.subTest(name=name):
                found = inspect.signature(getattr(House(), name)).parameters
                self.assertEqual(list(found), arguments)
        made = inspect.signature(House).parameters
        self.assertEqual(list(made), ["most"])
        self.assertEqual(made["most"].default, 96)


class Sizes(Houses):
    def test_what_is_no_size(self):
        for thing in NO_GUESTS + (193, 194, 255, 256, 1000, 65536, "96", [96], (96,), {96: 96}, 96.0, 191.5):
            with self.assertRaises(NoSize):
                House(thing)
            with self.assertRaises(NoSize):
                House(most=thing)

    def test_every_size(self):
        for size in range(193):
            self.assertHouse(House(size), [])
            self.assertHouse(House(most=size), [])

    def test_96_where_nothing_is_told(self):
        house = House()
        for guest in range(96):
            house.come(guest)
        self.assertRefused(house, Full, house.come, 96)
        self.assertHouse(house, list(range(96)))
        house.go(5)
        house.come(96)
        self.assertRefused(house, Full, house.come, 5)

    def test_filled_whole_and_emptied_again(self):
        draw = random.Random(1)
        for size in SIZES:
            for near in (False, True):
                row = helper.drawn_near(draw, ring_for(size), size + 1) if near else helper.drawn(draw, size + 1)
                stranger = row.pop()
                house = House(most=size) if near else House(size)
                guests = []
                for guest in row:
                    self.come(house, guest, guests)
                self.assertSeats(house)
                self.assertRefused(house, Full, house.come, stranger)
                self.assertRefused(house, Away, house.go, stranger)
                draw.shuffle(row)
                for guest in row:
                    self.go(house, guest, guests)
                self.assertEqual(house.row(), [None] * 8)

    def test_the_ring_at_each_step(self):
        last_counts = ((6, 8), (12, 16), (24, 32), (48, 64), (96, 128), (192, 256))
        asked = []
        for last, seats in last_counts:
            asked += [seats] * (last + 1 - len(asked))
        house = House(192)
        found = [len(house.row())]
        for guest in range(192):
            house.come(guest)
            found.append(len(house.row()))
        self.assertEqual(found, asked)
        for guest in range(192):
            self.assertEqual(len(house.row()), asked[192 - guest])
            house.go(guest)
        self.assertEqual(len(house.row()), 8)

    def test_the_ring_hangs_on_the_guests_not_on_the_size(self):
        for size in (6, 7, 96, 192):
            house = House(size)
            for guest in range(6):
                house.come(guest)
            self.assertEqual(len(house.row()), 8)


class ComingAndGoing(Houses):
    def test_written_seats(self):
        house = House()
        self.assertEqual(house.row(), [None] * 8)
        # On 8 seats 1 and 9 are at home on seat 7, 0 and 8 on seat 0, 7 on seat 1, 4 on seat 4.
        self.assertEqual([house.come(guest) for guest in (9, 8, 7, 1, 0, 4)], [7, 0, 1, 7, 1, 4])
        self.assertEqual(house.row(), [9, 0, 8, 7, 4, None, None, 1])
        self.assertEqual([house.seat_of(guest) for guest in (9, 0, 8, 7, 4, 1)], [0, 1, 2, 3, 4, 7])
        # On 16 seats 0 is at home on 0, 1 on 7, 2 on 14, 4 on 12, 7 on 1, 8 on 8, 9 on 15: all sit at home.
        self.assertEqual(house.come(2), 14)
        self.assertEqual(house.row(), [0, 7, None, None, None, None, None, 1, 8, None, None, None, 4, None, 2, 9])
        # The seat is told on the ring of 16, then the ring falls to 8 again.
        self.assertEqual(house.go(9), 15)
        self.assertEqual(house.row(), [0, 8, 7, None, 4, None, 2, 1])
        self.assertEqual(house.seat_of(9), None)
        self.assertEqual(house.go(0), 0)
        self.assertEqual(house.row(), [8, 7, None, None, 4, None, 2, 1])
        self.assertEqual(house.guests(), [1, 2, 4, 7, 8])
        self.assertEqual(house.many(), 5)

    def test_seat_of_one_who_is_not_there(self):
        house = House()
        for guest in (0, 1, 65536, LIMIT - 1):
            self.assertIsNone(house.seat_of(guest))
        for guest in (0, 8, 16):
            house.come(guest)
        for guest in (1, 7, 24, 32, LIMIT - 1):
            self.assertIsNone(house.seat_of(guest))

    def test_every_order(self):
        guests = [0, 8, 16, 7, 1, 65536, LIMIT - 1]
        asked = helper.seating_of(guests, 16)
        for order in itertools.islice(itertools.permutations(guests), 0, None, 7):
            house = House(7)
            for guest in order:
                house.come(guest)
            self.assertEqual(house.row(), asked)

    def test_whoever_came_and_went_between(self):
        draw = random.Random(2)
        for count in (0, 3, 6, 7, 20, 50):
            stay = helper.drawn(draw, count)
            strangers = [guest for guest in helper.drawn(draw, 40) if guest not in stay]
            asked = helper.seating_of(stay, ring_for(count))
            for _ in range(4):
                house = House(192)
                steps = stay + strangers
                draw.shuffle(steps)
                for guest in steps:
                    house.come(guest)
                draw.shuffle(strangers)
                for guest in strangers:
                    house.go(guest)
                self.assertEqual(house.row(), asked)
                self.assertHouse(house, stay)

    def test_long_coming_and_going(self):
        draw = random.Random(3)
        for size in (1, 7, 13, 30):
            pool = helper.drawn(draw, size + 3)
            house = House(size)
            guests = []
            for _ in range(250):
                guest = draw.choice(pool)
                if guest in guests and draw.random() < 0.8:
                    self.go(house, guest, guests)
                elif guest in guests:
                    self.assertRefused(house, Twice, house.come, guest)
                elif len(guests) < size:
                    self.assertRefused(house, Away, house.go, guest)
                    self.come(house, guest, guests)
                else:
                    self.assertRefused(house, Full, house.come, guest)
                    self.assertRefused(house, Away, house.go, guest)


class Refusals(Houses):
    def house(self, size, count):
        house = House(size)
        for guest in range(count):
            house.come(guest)
        return house

    def test_what_is_no_guest(self):
        for size, count in ((0, 0), (1, 0), (1, 1), (6, 6), (7, 7), (96, 12)):
            house = self.house(size, count)
            for thing in NO_GUESTS:
                for ask in (house.come, house.go, house.seat_of):
                    self.assertRefused(house, NoGuest, ask, thing)
            self.assertHouse(house, list(range(count)))

    def test_twice_ahead_of_full(self):
        for size in (1, 6, 7, 12):
            house = self.house(size, size)
            for guest in range(size):
                self.assertRefused(house, Twice, house.come, guest)
            self.assertRefused(house, Full, house.come, size)

    def test_twice_where_there_is_room(self):
        house = self.house(96, 6)
        for guest in range(6):
            self.assertRefused(house, Twice, house.come, guest)

    def test_away(self):
        house = House(0)
        self.assertRefused(house, Away, house.go, 0)
        house = self.house(7, 7)
        for guest in (7, 8, 16, 65536, LIMIT - 1):
            self.assertRefused(house, Away, house.go, guest)
        house.go(3)
        self.assertRefused(house, Away, house.go, 3)

    def test_a_house_for_nobody(self):
        house = House(0)
        self.assertRefused(house, Full, house.come, 0)
        self.assertRefused(house, NoGuest, house.come, None)
        self.assertHouse(house, [])

    def test_a_house_after_refusals_goes_on(self):
        house = self.house(7, 6)
        for ask, thing in ((house.come, "7"), (house.come, 3), (house.go, 9), (house.go, None), (house.seat_of, -1)):
            with self.assertRaises(ValueError):
                ask(thing)
        guests = list(range(6))
        self.come(house, LIMIT - 1, guests)
        self.assertRefused(house, Full, house.come, 7)
        self.go(house, 3, guests)
        self.come(house, 7, guests)
        self.assertSeats(house)


class Apart(Houses):
    def test_two_houses_side_by_side(self):
        one, other, third = House(), House(), House(7)
        firsts, seconds = [], []
        for guest in range(14):
            self.come(one, guest, firsts)
            self.come(other, guest * 8, seconds)
            self.assertHouse(one, firsts)
            self.assertHouse(third, [])
        for guest in range(14):
            self.go(one, guest, firsts)
            self.assertHouse(other, seconds)
        self.assertHouse(House(), [])

    def test_what_is_given_is_the_askers_own(self):
        house = House()
        for guest in (9, 8, 7, 1, 0):
            house.come(guest)
        for ask in (house.row, house.guests):
            first, kept = ask(), ask()
            asked = list(kept)
            first.append(5)
            first[0] = 77
            self.assertEqual(ask(), asked)
            first.clear()
            self.assertEqual(ask(), asked)
            self.assertEqual(kept, asked)
        self.assertHouse(house, [9, 8, 7, 1, 0])

    def test_what_is_given_stays_as_it_was(self):
        house = House()
        given = []
        for guest in range(20):
            house.come(guest)
            given.append((house.row(), house.guests()))
        for guest in range(20):
            house.go(guest)
        for count, (row, guests) in enumerate(given, start=1):
            self.assertEqual(row, helper.seating_of(range(count), ring_for(count)))
            self.assertEqual(guests, list(range(count)))

    def test_the_row_of_an_empty_house_is_its_own(self):
        row = House().row()
        row[0] = 0
        self.assertHouse(House(), [])


if __name__ == "__main__":
    unittest.main()
