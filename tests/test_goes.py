"""Point 6: goes and waits; and what is refused on a flight that has gone."""

import unittest

from tests.helper import (
    LARGEST, AirportCase, aboard, absent, bag, box, clear, flight, goes, hand, leaves, list_of, load, moves, next_on,
    out, person, run, rush, state, waits, where,
)

# On flight 0 containers 0 and 2, passengers 0 (bags 0, 1) and 1 (bags 2, 3); on flight 1 container 1, passenger 2.
READY = [
    flight(), flight(), person(0), person(0), person(1), box(0, 5, 100), box(1, 5, 100), box(0, 5, 100),
    bag(0, 1), bag(0, 2), bag(1, 4), bag(1, 8), bag(2, 16),
]
LOADED = READY + [load(2, 2), load(3, 0), load(0, 0), load(1, 2), load(4, 1)]
GONE = LOADED + [out(2), out(3), aboard(0), goes(0)]


class GoesTest(AirportCase):
    def test_refused_while_a_bag_may_not_fly(self):
        self.check_refused(LOADED, goes(0), -6)
        self.check_refused(LOADED + [aboard(0)], goes(0), -6)
        self.check_refused(LOADED + [aboard(0), absent(1)], goes(0), -6)
        self.check_refused(LOADED + [aboard(0), aboard(1), leaves(0)], goes(0), -6)

    def test_let_once_all_may_fly(self):
        self.check_answers(LOADED, [goes(0), aboard(0), goes(0), aboard(1), goes(0)], [-6, 2, -6, 0, 4])

    def test_let_once_it_is_cleared(self):
        ahead = LOADED + [aboard(0), absent(1)]
        self.check_answers(ahead, [goes(0), clear(0), goes(0)], [-6, [6, 2, 3, 2], 2])

    def test_let_once_the_bag_is_out(self):
        self.check_answers(LOADED + [aboard(0)], [out(2), goes(0), out(3), goes(0)], [3, -6, 3, 2])

    def test_nothing_flies(self):
        self.check_answers([flight()], [goes(0)], [0])
        self.check_answers(READY, [goes(0), goes(1)], [0, 0])
        self.check_answers(READY + [aboard(0), absent(1)], [goes(0)], [0])

    def test_passengers_without_a_loaded_bag_do_not_hold_it(self):
        self.check_answers(READY + [load(0, 0), aboard(0)], [goes(0)], [1])
        self.check_answers(READY + [load(0, 0), aboard(0), absent(1)], [goes(0)], [1])

    def test_bags_on_another_flight_do_not_count(self):
        self.check_answers(LOADED + [aboard(2)], [goes(1), goes(0)], [1, -6])

    def test_each_flight_goes_once(self):
        self.check_refused(GONE, goes(0), -4)
        self.check_refused([flight(), goes(0)], goes(0), -4)

    def test_no_such_flight(self):
        self.check_refused(LOADED, goes(2), -2)
        self.check_refused(LOADED, goes(LARGEST), -2)
        self.check_refused(GONE, goes(2), -2)

    def test_is_no_move(self):
        ahead = LOADED + [aboard(0), aboard(1)]
        self.assertEqual(run(ahead + [goes(0), state()])[-1][0], run(ahead + [state()])[-1][0])


class FlownTest(AirportCase):
    def test_bags_lie_as_they_lay(self):
        ahead = LOADED + [aboard(0), aboard(1), goes(0)]
        self.check_answers(ahead, [list_of(0), list_of(2), list_of(1)], [[9, 2, 3, 0], [6, 2, 2, 1], [16, 1, 4]])
        self.check_answers(
            ahead, [where(3), where(0), where(2), where(1), where(4)],
            [[2, 2, 0, 0], [2, 2, 0, 1], [2, 2, 2, 0], [2, 2, 2, 1], [1, 2, 1, 0]],
        )

    def test_bags_in_the_hall_stay_there(self):
        self.check_answers(GONE, [where(2), where(3), where(0)], [[0, 0], [0, 0], [2, 2, 0, 0]])

    def test_who_is_aboard_has_flown(self):
        self.check_state(
            GONE, 11, [[1], [0]], [[0, 1], [0, 0], [1, 0]],
            [[0, 1, 2, 0], [0, 2, 2, 0], [1, 4, 0, 0], [1, 8, 0, 0], [2, 16, 1, 0]],
            [[0, 5, 100, 1], [1, 5, 100, 1], [0, 5, 100, 1]],
        )


class GoneTest(AirportCase):
    def test_each_call_on_the_flight_is_refused(self):
        for call in (box(0, 1, 1), person(0), moves(0), clear(0), goes(0), waits(0), next_on(1, 0), next_on(2, 0)):
            self.check_refused(GONE, call, -4)

    def test_each_call_on_who_is_on_it_is_refused(self):
        for number in (0, 1):
            for call in (bag(number, 1), aboard(number), leaves(number), absent(number)):
                self.check_refused(GONE, call, -4)
        self.check_refused(GONE, next_on(0, 1), -4)

    def test_each_call_on_its_containers_and_bags_is_refused(self):
        for call in (load(2, 0), load(2, 2), load(0, 0), load(0, 1), rush(0), out(0), hand(0)):
            self.check_refused(GONE, call, -4)

    def test_the_other_flight_is_not_held(self):
        self.check_answers(
            GONE, [box(1, 1, 1), person(1), bag(2, 1), load(5, 3), waits(1), aboard(2), moves(1), goes(1)],
            [3, 3, 5, 1, [2, 2, 4, 5], 0, 0, 2],
        )


class WaitsTest(AirportCase):
    def test_all_that_may_not_fly(self):
        self.check_answers(LOADED, [waits(0), waits(1)], [[4, 4, 3, 0, 2, 1], [1, 1, 4]])
        self.check_answers(LOADED + [aboard(1)], [waits(0)], [[2, 2, 0, 1]])
        self.check_answers(LOADED + [aboard(0)], [waits(0)], [[2, 2, 3, 2]])

    def test_bags_of_the_expected_and_of_who_is_not_coming(self):
        self.check_answers(LOADED + [absent(0)], [waits(0)], [[4, 4, 3, 0, 2, 1]])
        self.check_answers(LOADED + [aboard(0), absent(1)], [waits(0)], [[2, 2, 3, 2]])
        self.check_answers(LOADED + [aboard(0), aboard(1), leaves(1)], [waits(0)], [[2, 2, 3, 2]])

    def test_none(self):
        self.check_answers(LOADED + [aboard(0), aboard(1)], [waits(0)], [[0, 0]])
        self.check_answers(READY, [waits(0), waits(1)], [[0, 0], [0, 0]])
        self.check_answers([flight()], [waits(0)], [[0, 0]])

    def test_changes_nothing(self):
        look = [state(), list_of(0), list_of(1), list_of(2)]
        self.check_answers(LOADED, [waits(0)] + look, [[4, 4, 3, 0, 2, 1]] + run(LOADED + look)[len(LOADED):])

    def test_no_such_flight(self):
        self.check_refused(LOADED, waits(2), -2)
        self.check_refused(LOADED, waits(LARGEST), -2)

    def test_flight_that_has_gone(self):
        self.check_refused(GONE, waits(0), -4)
        self.check_refused(GONE, waits(2), -2)


if __name__ == "__main__":
    unittest.main()
