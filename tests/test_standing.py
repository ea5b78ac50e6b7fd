"""Point 3: aboard, leaves, absent."""

import unittest

from tests.helper import (
    LARGEST, AirportCase, absent, aboard, bag, box, clear, flight, goes, leaves, load, next_on, out, person, rush,
)

# Passengers 0 and 1 on flight 0, with two bags and one loaded; passenger 2 on flight 1, with one.
LOADED = [
    flight(), flight(), person(0), person(0), person(1), box(0, 5, 100), box(0, 5, 100), box(1, 5, 100),
    bag(0, 1), bag(0, 1), bag(1, 1), bag(2, 1),
    load(0, 0), load(1, 1), load(2, 0), load(3, 2),
]


class StandingTest(AirportCase):
    def test_aboard_counts_what_may_not_fly_then(self):
        self.check_answers(LOADED, [aboard(0), aboard(1)], [1, 0])
        self.check_answers(LOADED, [aboard(1), aboard(0)], [2, 0])

    def test_absent_counts_what_may_not_fly_then(self):
        self.check_answers(LOADED, [absent(0), aboard(1)], [3, 2])
        self.check_answers(LOADED, [aboard(1), absent(0)], [2, 2])

    def test_leaves_counts_what_may_not_fly_then(self):
        self.check_answers(LOADED, [aboard(0), aboard(1), leaves(0), leaves(1)], [1, 0, 2, 3])

    def test_only_bags_on_the_passengers_flight_count(self):
        self.check_answers(LOADED, [aboard(2), leaves(2)], [0, 1])
        self.check_answers(LOADED, [absent(2), aboard(0)], [1, 1])

    def test_bags_in_the_hall_do_not_count(self):
        ahead = [flight(), person(0), person(0), box(0, 5, 50), bag(0, 1), bag(0, 1)]
        self.check_answers(ahead, [absent(1)], [0])
        self.check_answers(ahead, [load(0, 0), absent(1), out(0), absent(0)], [1, 1, 1, 0])

    def test_nobody_has_a_bag(self):
        ahead = [flight(), person(0), person(0)]
        self.check_answers(ahead, [aboard(0), leaves(0), absent(1)], [0, 0, 0])

    def test_bags_of_the_expected_may_not_fly(self):
        ahead = LOADED + [person(0)]
        self.check_answers(ahead, [aboard(3), leaves(3)], [3, 3])

    def test_following_bag_may_fly(self):
        ahead = LOADED + [bag(2, 1), aboard(2), goes(1), rush(4), load(4, 0)]
        self.check_answers(ahead, [aboard(0), leaves(0), absent(1)], [1, 3, 3])

    def test_counts_on_the_flight_that_the_passenger_is_on_then(self):
        ahead = LOADED + [absent(2), clear(1), next_on(2, 0)]
        self.check_answers(ahead, [aboard(2), load(3, 1), leaves(2)], [3, 2, 4])


class RefusedTest(AirportCase):
    def test_no_such_passenger(self):
        for call in (aboard, leaves, absent):
            self.check_refused(LOADED, call(3), -2)
            self.check_refused(LOADED, call(LARGEST), -2)

    def test_who_is_expected_does_not_leave(self):
        self.check_refused(LOADED, leaves(0), -4)

    def test_who_is_aboard_neither_boards_nor_is_absent(self):
        self.check_refused(LOADED + [aboard(0)], aboard(0), -4)
        self.check_refused(LOADED + [aboard(0)], absent(0), -4)

    def test_who_is_not_coming_stays_so(self):
        for ahead in ([absent(0)], [aboard(0), leaves(0)]):
            for call in (aboard, leaves, absent):
                self.check_refused(LOADED + ahead, call(0), -4)

    def test_flight_that_has_gone(self):
        ahead = LOADED + [out(2), aboard(0), goes(0)]
        self.check_refused(ahead, leaves(0), -4)
        self.check_refused(ahead, aboard(0), -4)
        self.check_refused(ahead, absent(0), -4)
        self.check_refused(ahead, aboard(1), -4)
        self.check_refused(ahead, absent(1), -4)
        self.check_refused(ahead, absent(3), -2)
        self.check_answers(ahead, [aboard(2)], [0])

    def test_a_refusal_leaves_the_standing(self):
        self.check_answers(LOADED, [leaves(0), aboard(0), absent(0), leaves(0)], [-4, 1, -4, 3])


if __name__ == "__main__":
    unittest.main()
