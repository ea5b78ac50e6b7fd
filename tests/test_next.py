"""Point 8: next."""

import unittest

from tests.helper import (
    LARGEST, AirportCase, aboard, absent, bag, box, clear, flight, goes, hand, leaves, load, next_on, out, person, rush,
)

READY = [flight(), flight(), person(0), person(0), box(0, 5, 50), box(1, 5, 50), bag(0, 1), bag(0, 2), bag(1, 3)]


class NextTest(AirportCase):
    def check_expected_on(self, calls, flight_number):
        """Passenger 0 is expected there, and no one else, no bag and no container is changed."""
        gone = [1 if goes(number) in calls else 0 for number in (0, 1)]
        self.check_state(
            calls, 0, [[gone[0]], [gone[1]]], [[flight_number, 0], [0, 0]],
            [[0, 1, 0, 0], [0, 2, 0, 0], [1, 3, 0, 0]], [[0, 5, 50, 0], [1, 5, 50, 0]],
        )

    def test_who_is_expected(self):
        self.check_answers(READY, [next_on(0, 1)], [0])
        self.check_expected_on(READY + [next_on(0, 1)], 1)

    def test_who_is_not_coming(self):
        for ahead in ([absent(0)], [aboard(0), leaves(0)]):
            self.check_answers(READY + ahead, [next_on(0, 1)], [0])
            self.check_expected_on(READY + ahead + [next_on(0, 1)], 1)

    def test_on_the_same_flight(self):
        for ahead in ([], [absent(0)], [aboard(0), leaves(0)]):
            self.check_answers(READY + ahead, [next_on(0, 0)], [0])
            self.check_expected_on(READY + ahead + [next_on(0, 0)], 0)

    def test_from_a_flight_that_has_gone(self):
        for ahead in ([], [absent(0)], [aboard(0), leaves(0)]):
            self.check_answers(READY + ahead + [goes(0)], [next_on(0, 1)], [0])
            self.check_expected_on(READY + ahead + [goes(0), next_on(0, 1)], 1)

    def test_there_and_back(self):
        self.check_expected_on(READY + [next_on(0, 1), absent(0), next_on(0, 0)], 0)

    def test_flies_there_with_the_bags(self):
        ahead = READY + [load(0, 0), absent(0), clear(0), goes(0), next_on(0, 1)]
        self.check_answers(
            ahead, [bag(0, 4), load(0, 1), load(3, 1), load(1, 0), goes(1), aboard(0), goes(1), rush(1)],
            [3, 1, 2, -4, -6, 0, 2, 0],
        )

    def test_once_no_bag_is_loaded(self):
        ahead = READY + [load(0, 0), load(1, 0), absent(0)]
        self.check_answers(
            ahead, [next_on(0, 1), out(0), next_on(0, 1), out(1), next_on(0, 1)], [-6, 3, -6, 1, 0],
        )

    def test_bags_of_others_do_not_hold(self):
        self.check_answers(READY + [load(2, 0)], [next_on(0, 1)], [0])

    def test_bags_handed_out_do_not_hold(self):
        self.check_answers(READY + [absent(0), hand(0), hand(1)], [next_on(0, 1)], [0])


class RefusedTest(AirportCase):
    def test_no_such_passenger(self):
        self.check_refused(READY, next_on(2, 0), -2)
        self.check_refused(READY, next_on(LARGEST, 0), -2)
        self.check_refused(READY + [goes(1)], next_on(2, 1), -2)

    def test_no_such_flight(self):
        self.check_refused(READY, next_on(0, 2), -2)
        self.check_refused(READY, next_on(0, LARGEST), -2)
        self.check_refused(READY, next_on(2, 2), -2)

    def test_no_such_flight_ahead_of_aboard_and_loaded(self):
        self.check_refused(READY + [aboard(0)], next_on(0, 2), -2)
        self.check_refused(READY + [load(0, 0)], next_on(0, 2), -2)
        self.check_refused(READY + [aboard(0), goes(0)], next_on(0, 2), -2)

    def test_flight_that_has_gone(self):
        self.check_refused(READY + [goes(1)], next_on(0, 1), -4)
        self.check_refused(READY + [goes(0)], next_on(0, 0), -4)
        self.check_refused(READY + [absent(0), goes(0)], next_on(0, 0), -4)

    def test_who_is_aboard(self):
        self.check_refused(READY + [aboard(0)], next_on(0, 1), -4)
        self.check_refused(READY + [aboard(0)], next_on(0, 0), -4)

    def test_who_has_flown(self):
        self.check_refused(READY + [aboard(0), goes(0)], next_on(0, 1), -4)
        self.check_refused(READY + [aboard(0), goes(0)], next_on(0, 0), -4)
        self.check_refused(READY + [load(0, 0), aboard(0), goes(0)], next_on(0, 1), -4)

    def test_a_bag_is_loaded(self):
        for ahead in ([load(0, 0)], [load(1, 0), absent(0)], [load(1, 0), aboard(0), leaves(0)]):
            self.check_refused(READY + ahead, next_on(0, 1), -6)
            self.check_refused(READY + ahead, next_on(0, 0), -6)

    def test_gone_or_aboard_ahead_of_loaded(self):
        self.check_refused(READY + [load(0, 0), goes(1)], next_on(0, 1), -4)
        self.check_refused(READY + [load(0, 0), aboard(0)], next_on(0, 1), -4)


if __name__ == "__main__":
    unittest.main()
