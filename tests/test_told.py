"""Point 1: flight, box, person, bag; and -2 of what they tell."""

import unittest

from tests.helper import (
    LARGEST, AirportCase, absent, aboard, bag, box, clear, flight, goes, hand, leaves, list_of, load, moves, next_on,
    out, person, rush, waits, where,
)

TWO_FLIGHTS = [flight(), flight()]


class FlightTest(AirportCase):
    def test_numbers_from_0_up_to_8_flights(self):
        self.check_answers([], [flight()] * 10, [0, 1, 2, 3, 4, 5, 6, 7, -5, -5])

    def test_ninth_changes_nothing(self):
        self.check_refused([flight()] * 8, flight(), -5)
        self.check_answers([flight()] * 9, [person(7), person(8)], [0, -2])


class BoxTest(AirportCase):
    def test_numbers_from_0_whatever_the_flight(self):
        self.check_answers(TWO_FLIGHTS, [box(1, 5, 50), box(0, 1, 1), box(1, 20, 2000)], [0, 1, 2])

    def test_sizes_that_are_let(self):
        for bags, heavy in ((1, 1), (20, 2000), (1, 2000), (20, 1)):
            self.check_answers([flight()], [box(0, bags, heavy)], [0])

    def test_sizes_that_are_refused(self):
        for wrong in ((0, 1), (21, 1), (1, 0), (1, 2001), (0, 0), (LARGEST, 1), (1, LARGEST), (LARGEST, LARGEST)):
            self.check_refused([flight()], box(0, wrong[0], wrong[1]), -1)

    def test_twelve_at_most(self):
        self.check_answers([flight()], [box(0, 1, 1)] * 13, list(range(12)) + [-5])
        self.check_refused([flight()] + [box(0, 1, 1)] * 12, box(0, 20, 2000), -5)

    def test_twelve_at_most_of_all_flights_together(self):
        self.check_refused(TWO_FLIGHTS + [box(0, 1, 1), box(1, 1, 1)] * 6, box(1, 1, 1), -5)

    def test_no_such_flight(self):
        self.check_refused([], box(0, 1, 1), -2)
        self.check_refused([flight()], box(1, 1, 1), -2)
        self.check_refused([flight()], box(LARGEST, 1, 1), -2)

    def test_order_of_refusals(self):
        full = [flight()] + [box(0, 1, 1)] * 12
        self.check_refused(full, box(1, 0, 0), -2)
        self.check_refused(full, box(0, 0, 1), -1)
        self.check_refused(full, box(0, 1, 2001), -1)

    def test_flight_that_has_gone(self):
        ahead = TWO_FLIGHTS + [goes(0)]
        self.check_refused(ahead, box(0, 1, 1), -4)
        self.check_refused(ahead, box(0, 0, 0), -4)
        self.check_answers(ahead, [box(1, 1, 1)], [0])
        full = ahead + [box(1, 1, 1)] * 12
        self.check_refused(full, box(0, 1, 1), -4)
        self.check_refused(full, box(0, 0, 0), -4)
        self.check_refused(full, box(1, 0, 0), -1)
        self.check_refused(full, box(2, 0, 0), -2)

    def test_refused_box_takes_no_number(self):
        self.check_answers([flight(), box(0, 0, 0), box(3, 1, 1)], [box(0, 1, 1)], [0])


class PersonTest(AirportCase):
    def test_numbers_from_0_whatever_the_flight(self):
        self.check_answers(TWO_FLIGHTS, [person(1), person(0), person(1)], [0, 1, 2])

    def test_is_expected_on_that_flight(self):
        ahead = TWO_FLIGHTS + [person(1), box(0, 5, 50), box(1, 5, 50), bag(0, 5)]
        self.check_answers(ahead, [leaves(0), load(0, 0), load(0, 1), aboard(0)], [-4, -7, 1, 0])
        self.check_answers(ahead, [absent(0)], [0])

    def test_forty_at_most(self):
        self.check_answers([flight()], [person(0)] * 41, list(range(40)) + [-5])
        self.check_refused([flight()] + [person(0)] * 40, person(0), -5)

    def test_no_such_flight(self):
        self.check_refused([], person(0), -2)
        self.check_refused([flight()], person(1), -2)
        self.check_refused([flight()], person(LARGEST), -2)

    def test_order_of_refusals(self):
        self.check_refused([flight()] + [person(0)] * 40, person(1), -2)
        self.check_refused([flight()] + [person(0)] * 40 + [goes(0)], person(0), -4)

    def test_flight_that_has_gone(self):
        self.check_refused(TWO_FLIGHTS + [goes(1)], person(1), -4)
        self.check_answers(TWO_FLIGHTS + [goes(1)], [person(0)], [0])


class BagTest(AirportCase):
    def test_numbers_from_0_whatever_the_owner(self):
        self.check_answers([flight(), person(0), person(0)], [bag(1, 5), bag(0, 1), bag(1, 100)], [0, 1, 2])

    def test_is_in_the_hall(self):
        ahead = [flight(), person(0), box(0, 5, 50), bag(0, 5)]
        self.check_answers(ahead, [out(0), load(0, 0)], [-4, 1])

    def test_weights(self):
        ahead = [flight(), person(0)]
        self.check_answers(ahead, [bag(0, 1), bag(0, 100)], [0, 1])
        for weight in (0, 101, LARGEST):
            self.check_refused(ahead, bag(0, weight), -1)

    def test_weighs_what_was_told(self):
        ahead = [flight(), person(0), box(0, 20, 99), bag(0, 100), bag(0, 99)]
        self.check_answers(ahead, [load(0, 0), load(1, 0)], [-5, 1])

    def test_sixty_at_most(self):
        ahead = [flight(), person(0), person(0)]
        self.check_answers(ahead, [bag(0, 1), bag(1, 100)] * 30 + [bag(0, 1)], list(range(60)) + [-5])
        self.check_refused(ahead + [bag(0, 1)] * 60, bag(1, 1), -5)

    def test_no_such_passenger(self):
        self.check_refused([flight()], bag(0, 1), -2)
        self.check_refused([flight(), person(0)], bag(1, 1), -2)
        self.check_refused([flight(), person(0)], bag(LARGEST, 1), -2)

    def test_order_of_refusals(self):
        full = [flight(), person(0)] + [bag(0, 1)] * 60
        self.check_refused(full, bag(1, 0), -2)
        self.check_refused(full, bag(0, 0), -1)
        self.check_refused(full, bag(0, 101), -1)

    def test_owner_of_any_standing(self):
        ahead = [flight(), person(0), person(0), aboard(0), absent(1)]
        self.check_answers(ahead, [bag(0, 1), bag(1, 1)], [0, 1])

    def test_flight_that_has_gone(self):
        for standing in ([], [aboard(0)], [absent(0)]):
            ahead = TWO_FLIGHTS + [person(0), person(1)] + standing + [goes(0)]
            self.check_refused(ahead, bag(0, 1), -4)
            self.check_refused(ahead, bag(0, 0), -4)
            self.check_answers(ahead, [bag(1, 1)], [0])
            full = ahead + [bag(1, 1)] * 60
            self.check_refused(full, bag(0, 1), -4)
            self.check_refused(full, bag(1, 0), -1)
            self.check_refused(full, bag(1, 1), -5)


class NothingThereTest(AirportCase):
    def test_at_the_beginning_there_is_nothing(self):
        for call in (
            box(0, 1, 1), person(0), bag(0, 1), load(0, 0), aboard(0), leaves(0), absent(0), rush(0), out(0), moves(0),
            clear(0), goes(0), hand(0), waits(0), next_on(0, 0), where(0), list_of(0),
        ):
            self.check_refused([], call, -2)


if __name__ == "__main__":
    unittest.main()
