"""Point 7: hand."""

import unittest

from tests.helper import (
    LARGEST, AirportCase, aboard, absent, bag, box, clear, flight, goes, hand, leaves, list_of, load, moves, next_on,
    out, person, rush, waits, where,
)

READY = [flight(), flight(), person(0), person(0), box(0, 5, 50), box(1, 5, 50), bag(0, 1), bag(0, 2), bag(1, 3)]
HANDED = READY + [absent(0), hand(0)]


class HandTest(AirportCase):
    def test_bag_of_one_who_is_absent(self):
        self.check_answers(READY + [absent(0)], [hand(0), where(0), where(1)], [0, [3, 0], [0, 0]])

    def test_bag_of_one_who_left(self):
        self.check_answers(READY + [aboard(0), leaves(0)], [hand(1), where(1), where(0)], [0, [3, 0], [0, 0]])

    def test_bag_that_came_out(self):
        ahead = READY + [load(0, 0), load(1, 0), absent(0)]
        self.check_answers(ahead, [hand(1), out(1), hand(1), clear(0), hand(0)], [-4, 1, 0, [1, 1, 0], 0])

    def test_bag_of_one_who_was_left_behind(self):
        self.check_answers(READY + [absent(0), goes(0)], [hand(0), hand(1)], [0, 0])

    def test_is_no_move(self):
        self.check_state(
            HANDED, 0, [[0], [0]], [[0, 2], [0, 0]], [[0, 1, 3, 0], [0, 2, 0, 0], [1, 3, 0, 0]],
            [[0, 5, 50, 0], [1, 5, 50, 0]],
        )


class HandedOutTest(AirportCase):
    def test_nothing_is_done_with_it_any_more(self):
        for call in (load(0, 0), load(0, 1), rush(0), out(0), hand(0)):
            self.check_refused(HANDED, call, -4)

    def test_it_holds_no_flight_and_no_owner(self):
        self.check_answers(
            HANDED, [waits(0), moves(0), clear(0), next_on(0, 1), aboard(0), goes(0), goes(1), where(0)],
            [[0, 0], 0, [0, 0], 0, 0, 0, 0, [3, 0]],
        )

    def test_it_stays_so_when_its_owner_is_expected_again_or_has_flown(self):
        again = HANDED + [next_on(0, 1)]
        self.check_refused(again, load(0, 1), -4)
        self.check_refused(again, hand(0), -4)
        self.check_refused(again + [aboard(0), goes(1)], rush(0), -4)

    def test_it_lies_nowhere(self):
        self.check_answers(HANDED, [list_of(0), list_of(1)], [[0, 0], [0, 0]])


class RefusedTest(AirportCase):
    def test_no_such_bag(self):
        self.check_refused(READY, hand(3), -2)
        self.check_refused(READY, hand(LARGEST), -2)

    def test_not_in_the_hall(self):
        self.check_refused(READY + [load(0, 0), absent(0)], hand(0), -4)
        self.check_refused(READY + [load(0, 0), aboard(0), goes(0)], hand(0), -4)
        self.check_refused(HANDED, hand(0), -4)

    def test_owner_is_not_one_who_is_not_coming(self):
        self.check_refused(READY, hand(0), -7)
        self.check_refused(READY + [aboard(0)], hand(0), -7)
        self.check_refused(READY + [aboard(0), goes(0)], hand(0), -7)
        self.check_refused(READY + [goes(0)], hand(0), -7)
        self.check_refused(READY + [absent(0), next_on(0, 0)], hand(0), -7)
        self.check_refused(READY + [absent(0)], hand(2), -7)

    def test_not_in_the_hall_ahead_of_the_owner(self):
        self.check_refused(READY + [load(0, 0)], hand(0), -4)
        self.check_refused(READY + [load(0, 0), aboard(0)], hand(0), -4)


if __name__ == "__main__":
    unittest.main()
