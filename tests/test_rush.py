"""Point 4: rush. No call told so far lets a flight go, so that is set by hand here."""

import unittest

from tests.helper import LARGEST, AirportCase, absent, aboard, airport_after, answer_call, bag, box, flight, leaves
from tests.helper import load, out, person, rush

READY = [flight(), person(0), box(0, 5, 50), bag(0, 1), bag(0, 1)]


class RushTest(AirportCase):
    def test_no_such_bag(self):
        self.check_refused(READY, rush(2), -2)
        self.check_refused(READY, rush(LARGEST), -2)

    def test_owner_has_not_flown(self):
        for ahead in ([], [aboard(0)], [absent(0)], [aboard(0), leaves(0)]):
            self.check_refused(READY + ahead, rush(0), -7)

    def test_not_in_the_hall(self):
        self.check_refused(READY + [load(0, 0)], rush(0), -4)
        self.check_refused(READY + [load(0, 0), aboard(0)], rush(0), -4)

    def test_in_the_hall_again(self):
        self.check_answers(READY, [load(0, 0), rush(0), out(0), rush(0)], [1, -4, 1, -7])

    def test_owner_has_flown(self):
        airport = airport_after(READY + [aboard(0)])
        airport.flights[0].gone = True
        self.assertEqual(answer_call(airport, 8, [0]), [0])
        self.assertTrue(airport.bags[0].follows)
        self.assertFalse(airport.bags[1].follows)

    def test_follows_already(self):
        airport = airport_after(READY + [aboard(0)])
        airport.flights[0].gone = True
        answer_call(airport, 8, [0])
        self.check_refused_on(airport, rush(0), -4)
        airport.flights[0].gone = False
        self.check_refused_on(airport, rush(0), -4)

    def test_owner_stayed_behind(self):
        for standing in ([], [absent(0)]):
            airport = airport_after(READY + standing)
            airport.flights[0].gone = True
            self.check_refused_on(airport, rush(0), -7)


if __name__ == "__main__":
    unittest.main()
