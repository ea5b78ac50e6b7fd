"""Point 2: load."""

import unittest

from tests.helper import (
    LARGEST, AirportCase, absent, aboard, bag, box, flight, goes, hand, leaves, list_of, load, next_on, out, person,
    rush,
)

READY = [flight(), person(0), box(0, 3, 100), box(0, 20, 2000), bag(0, 10), bag(0, 20), bag(0, 30), bag(0, 40)]
TWO_FLIGHTS = [flight(), flight(), person(0), box(0, 1, 10), box(1, 1, 10), bag(0, 10), bag(0, 11)]


class LoadTest(AirportCase):
    def test_answers_how_many_are_in_it(self):
        self.check_answers(READY, [load(2, 0), load(0, 0), load(3, 1), load(1, 0)], [1, 2, 1, 3])

    def test_put_on_top(self):
        self.check_answers(READY + [load(2, 0), load(0, 0), load(1, 0)], [out(1), out(0), out(2)], [1, 1, 1])
        self.check_answers(READY + [load(2, 0), load(0, 0), load(1, 0)], [out(2)], [5])
        self.check_answers(READY + [load(2, 0), load(0, 0), load(1, 0)], [list_of(0)], [[60, 3, 2, 0, 1]])

    def test_is_one_move(self):
        self.check_state(
            READY + [load(2, 0), load(0, 1)], 2, [[0]], [[0, 0]],
            [[0, 10, 1, 0], [0, 20, 0, 0], [0, 30, 1, 0], [0, 40, 0, 0]], [[0, 3, 100, 1], [0, 20, 2000, 1]],
        )

    def test_owner_expected_or_aboard(self):
        self.check_answers(READY, [load(0, 0), aboard(0), load(1, 0)], [1, 0, 2])

    def test_no_such_one(self):
        self.check_refused(READY, load(4, 0), -2)
        self.check_refused(READY, load(0, 2), -2)
        self.check_refused(READY, load(4, 2), -2)
        self.check_refused(READY, load(LARGEST, 0), -2)
        self.check_refused(READY, load(0, LARGEST), -2)

    def test_not_in_the_hall(self):
        self.check_refused(READY + [load(0, 0)], load(0, 0), -4)
        self.check_refused(READY + [load(0, 0)], load(0, 1), -4)

    def test_flown_or_handed_out(self):
        self.check_refused(READY + [load(0, 0), aboard(0), goes(0)], load(0, 1), -4)
        self.check_refused(READY + [absent(0), hand(0)], load(0, 0), -4)
        self.check_refused(READY + [absent(0), hand(0), next_on(0, 0)], load(0, 0), -4)

    def test_flight_of_the_container_has_gone(self):
        ahead = TWO_FLIGHTS + [goes(1)]
        self.check_refused(ahead, load(0, 1), -4)
        self.check_refused(ahead, load(0, 2), -2)
        self.check_answers(ahead, [load(0, 0)], [1])
        self.check_refused(ahead + [absent(0)], load(1, 1), -4)
        self.check_refused(TWO_FLIGHTS + [goes(0)], load(0, 0), -4)
        self.check_refused(TWO_FLIGHTS + [aboard(0), goes(0), goes(1), rush(0)], load(0, 1), -4)

    def test_owner_on_another_flight(self):
        self.check_refused(TWO_FLIGHTS, load(0, 1), -7)

    def test_owner_not_coming(self):
        self.check_refused(READY + [absent(0)], load(0, 0), -6)
        self.check_refused(READY + [aboard(0), leaves(0)], load(0, 0), -6)


class RoomTest(AirportCase):
    def test_just_full_by_number(self):
        ahead = READY + [load(0, 0), load(1, 0)]
        self.check_answers(ahead, [load(2, 0)], [3])
        ahead = [flight(), person(0), box(0, 3, 100)] + [bag(0, 1)] * 4 + [load(0, 0), load(1, 0), load(2, 0)]
        self.check_refused(ahead, load(3, 0), -5)

    def test_just_full_by_weight(self):
        ahead = READY + [bag(0, 1), box(0, 20, 60), load(0, 2), load(1, 2)]
        self.check_answers(ahead, [load(2, 2)], [3])
        self.check_refused(ahead + [load(2, 2)], load(4, 2), -5)

    def test_too_heavy_by_one(self):
        self.check_refused(READY + [box(0, 20, 59), load(0, 2), load(1, 2)], load(2, 2), -5)

    def test_smallest_container(self):
        ahead = [flight(), person(0), box(0, 1, 1), bag(0, 1), bag(0, 2), bag(0, 1)]
        self.check_refused(ahead, load(1, 0), -5)
        self.check_answers(ahead, [load(0, 0), load(2, 0), out(0), load(2, 0)], [1, -5, 1, 1])

    def test_largest_container(self):
        ahead = [flight(), person(0), box(0, 20, 2000)] + [bag(0, 100)] * 20 + [bag(0, 1)]
        loads = [load(number, 0) for number in range(20)]
        self.check_answers(ahead, loads, list(range(1, 21)))
        self.check_refused(ahead + loads, load(20, 0), -5)

    def test_two_thousand_is_not_passed(self):
        ahead = [flight(), person(0), box(0, 20, 1999)] + [bag(0, 100)] * 20
        loads = [load(number, 0) for number in range(19)]
        self.check_refused(ahead + loads, load(19, 0), -5)

    def test_what_came_out_leaves_its_room(self):
        ahead = READY + [load(0, 0), load(1, 0), load(2, 0)]
        self.check_answers(ahead, [load(3, 0), out(0), load(3, 0)], [-5, 5, 3])

    def test_containers_have_room_each_for_itself(self):
        ahead = [flight(), person(0), box(0, 1, 10), box(0, 1, 10), bag(0, 10), bag(0, 10)]
        self.check_answers(ahead, [load(0, 0), load(1, 0), load(1, 1)], [1, -5, 1])


class OrderTest(AirportCase):
    def test_not_in_the_hall_ahead_of_another_flight(self):
        self.check_refused(TWO_FLIGHTS + [load(0, 0)], load(0, 1), -4)

    def test_not_in_the_hall_ahead_of_not_coming_and_no_room(self):
        self.check_refused(TWO_FLIGHTS + [load(0, 0), absent(0)], load(0, 0), -4)

    def test_no_such_one_ahead_of_not_in_the_hall(self):
        self.check_refused(TWO_FLIGHTS + [load(0, 0)], load(0, 2), -2)

    def test_another_flight_ahead_of_not_coming(self):
        self.check_refused(TWO_FLIGHTS + [absent(0)], load(0, 1), -7)

    def test_another_flight_ahead_of_no_room(self):
        self.check_refused(TWO_FLIGHTS, load(1, 1), -7)

    def test_not_coming_ahead_of_no_room(self):
        self.check_refused(TWO_FLIGHTS + [absent(0)], load(1, 0), -6)
        self.check_refused(TWO_FLIGHTS + [load(0, 0), absent(0)], load(1, 0), -6)


class OtherFlightTest(AirportCase):
    def test_owner_has_flown_and_the_bag_does_not_follow(self):
        self.check_refused(TWO_FLIGHTS + [aboard(0), goes(0)], load(0, 1), -7)

    def test_owner_is_on_the_other_flight_from_now_on(self):
        ahead = TWO_FLIGHTS + [next_on(0, 1)]
        self.check_refused(ahead, load(0, 0), -7)
        self.check_answers(ahead, [load(0, 1)], [1])


if __name__ == "__main__":
    unittest.main()
