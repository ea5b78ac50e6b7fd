"""Point 4: rush; and what is done with a bag that follows."""

import unittest

from tests.helper import (
    LARGEST, AirportCase, aboard, absent, airport_after, answer_call, bag, box, clear, flight, goes, hand, leaves,
    list_of, load, moves, next_on, out, person, rush, waits, where,
)

READY = [flight(), person(0), box(0, 5, 50), bag(0, 1), bag(0, 1)]
# Passenger 0 flies on flight 0 and leaves bags 0 and 1 behind; on flight 1 are passenger 1 and container 1.
LEFT_BEHIND = [
    flight(), flight(), person(0), person(1), box(0, 5, 50), box(1, 2, 50), bag(0, 10), bag(0, 20), bag(1, 30),
    bag(0, 40), load(3, 0), aboard(0), goes(0),
]
FOLLOWING = LEFT_BEHIND + [rush(0)]


class RushTest(AirportCase):
    def test_no_such_bag(self):
        self.check_refused(READY, rush(2), -2)
        self.check_refused(READY, rush(LARGEST), -2)

    def test_owner_has_not_flown(self):
        for ahead in ([], [aboard(0)], [absent(0)], [aboard(0), leaves(0)]):
            self.check_refused(READY + ahead, rush(0), -7)

    def test_owner_was_left_behind(self):
        for ahead in ([], [absent(0)], [aboard(0), leaves(0)]):
            self.check_refused(READY + ahead + [goes(0)], rush(0), -7)
        self.check_refused(READY + [flight(), next_on(0, 1), goes(0), aboard(0)], rush(0), -7)

    def test_not_in_the_hall(self):
        self.check_refused(READY + [load(0, 0)], rush(0), -4)
        self.check_refused(READY + [load(0, 0), aboard(0)], rush(0), -4)
        self.check_refused(READY + [load(0, 0), aboard(0), goes(0)], rush(0), -4)
        self.check_refused(READY + [absent(0), hand(0)], rush(0), -4)

    def test_in_the_hall_again(self):
        self.check_answers(READY, [load(0, 0), rush(0), out(0), rush(0)], [1, -4, 1, -7])

    def test_owner_has_flown(self):
        self.check_answers(LEFT_BEHIND, [rush(1)], [0])
        self.check_state(
            LEFT_BEHIND + [rush(1)], 1, [[1], [0]], [[0, 1], [1, 0]],
            [[0, 10, 0, 0], [0, 20, 0, 1], [1, 30, 0, 0], [0, 40, 2, 0]], [[0, 5, 50, 1], [1, 2, 50, 0]],
        )

    def test_follows_already(self):
        self.check_refused(FOLLOWING, rush(0), -4)
        self.check_answers(FOLLOWING, [rush(1)], [0])

    def test_follows_already_while_loaded_or_flown_or_out_again(self):
        self.check_refused(FOLLOWING + [load(0, 1)], rush(0), -4)
        self.check_refused(FOLLOWING + [load(0, 1), goes(1)], rush(0), -4)
        self.check_refused(FOLLOWING + [load(0, 1), out(0)], rush(0), -4)


class FollowingTest(AirportCase):
    def test_stays_in_the_hall_till_it_is_loaded(self):
        self.check_answers(FOLLOWING, [where(0), load(0, 1), where(0)], [[0, 0], 1, [1, 2, 1, 0]])

    def test_is_loaded_on_a_flight_that_is_not_its_owners(self):
        self.check_answers(FOLLOWING, [load(1, 1), load(0, 1)], [-7, 1])

    def test_is_loaded_only_where_there_is_room(self):
        self.check_refused(FOLLOWING + [box(1, 1, 9)], load(0, 2), -5)
        self.check_answers(FOLLOWING + [box(1, 1, 10), load(0, 2)], [rush(1), load(1, 2)], [0, -5])

    def test_is_not_loaded_on_its_owners_flight_that_has_gone(self):
        self.check_refused(FOLLOWING, load(0, 0), -4)

    def test_comes_out_and_goes_in_again(self):
        ahead = FOLLOWING + [load(0, 1), load(2, 1)]
        self.check_answers(ahead, [out(0), where(0), load(0, 1), list_of(1)], [3, [0, 0], 2, [40, 2, 2, 0]])

    def test_may_fly(self):
        ahead = FOLLOWING + [load(0, 1), load(2, 1)]
        self.check_answers(ahead, [waits(1), goes(1), aboard(1), goes(1)], [[1, 1, 2], -6, 0, 2])

    def test_flies_alone(self):
        self.check_answers(FOLLOWING + [load(0, 1)], [goes(1), where(0)], [1, [2, 2, 1, 0]])

    def test_does_not_have_to_come_out(self):
        ahead = FOLLOWING + [load(0, 1), load(2, 1), absent(1)]
        self.check_answers(ahead, [moves(1), clear(1), list_of(1)], [1, [1, 1, 2], [10, 1, 0]])

    def test_is_put_back_if_it_lies_above(self):
        ahead = FOLLOWING + [load(2, 1), load(0, 1), absent(1)]
        self.check_answers(ahead, [moves(1), clear(1), where(0)], [3, [3, 1, 2], [1, 2, 1, 0]])

    def test_follows_when_it_has_flown(self):
        self.check_state(
            FOLLOWING + [load(0, 1), goes(1)], 2, [[1], [1]], [[0, 1], [1, 0]],
            [[0, 10, 2, 1], [0, 20, 0, 0], [1, 30, 0, 0], [0, 40, 2, 0]], [[0, 5, 50, 1], [1, 2, 50, 1]],
        )

    def test_is_not_handed_out(self):
        self.check_refused(FOLLOWING, hand(0), -7)
        self.check_refused(FOLLOWING + [load(0, 1)], hand(0), -4)


class WordsAloneTest(AirportCase):
    """Who owns a bag that follows has flown, so by calls it can't be that such a one isn't coming: set by hand here."""

    def following_while_owner_is_not_coming(self):
        airport = airport_after(READY + [absent(0)])
        airport.bags[0].follows = True
        return airport

    def test_it_is_loaded_and_flies(self):
        airport = self.following_while_owner_is_not_coming()
        calls = [load(0, 0), moves(0), clear(0), waits(0), goes(0)]
        given = [answer_call(airport, call[0], call[1:]) for call in calls]
        self.assertEqual(given, [[1], [0], [0, 0], [0, 0], [1]])


if __name__ == "__main__":
    unittest.main()
