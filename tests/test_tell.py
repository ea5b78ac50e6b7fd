"""where, list and state: what they answer, and that they change nothing."""

import unittest

from tests.helper import (
    LARGEST, AirportCase, aboard, absent, bag, box, clear, flight, goes, hand, leaves, list_of, load, next_on, out,
    person, run, rush, state, where,
)

READY = [flight(), person(0), box(0, 5, 500), box(0, 5, 500), bag(0, 100), bag(0, 20), bag(0, 3)]
PILED = READY + [load(2, 1), load(0, 1), load(1, 1)]


class WhereTest(AirportCase):
    def test_in_the_hall(self):
        self.check_answers(READY, [where(0), where(2)], [[0, 0], [0, 0]])
        self.check_answers(PILED + [out(0)], [where(0)], [[0, 0]])

    def test_loaded(self):
        self.check_answers(PILED, [where(0), where(1), where(2)], [[1, 2, 1, 1], [1, 2, 1, 2], [1, 2, 1, 0]])

    def test_lies_lower_when_one_below_came_out(self):
        self.check_answers(PILED + [out(2)], [where(0), where(1)], [[1, 2, 1, 0], [1, 2, 1, 1]])

    def test_loaded_elsewhere(self):
        self.check_answers(PILED + [out(2), load(2, 0)], [where(2)], [[1, 2, 0, 0]])

    def test_flown(self):
        ahead = PILED + [aboard(0), goes(0)]
        self.check_answers(ahead, [where(0), where(1), where(2)], [[2, 2, 1, 1], [2, 2, 1, 2], [2, 2, 1, 0]])

    def test_handed_out(self):
        self.check_answers(PILED + [absent(0), clear(0), hand(1)], [where(1), where(0)], [[3, 0], [0, 0]])

    def test_no_such_bag(self):
        self.check_refused(PILED, where(3), -2)
        self.check_refused(PILED, where(LARGEST), -2)


class ListTest(AirportCase):
    def test_weight_and_bags_from_the_lowest_up(self):
        self.check_answers(PILED, [list_of(1)], [[123, 3, 2, 0, 1]])

    def test_no_bags(self):
        self.check_answers(PILED, [list_of(0)], [[0, 0]])
        self.check_answers(PILED + [absent(0), clear(0)], [list_of(1)], [[0, 0]])

    def test_full_and_heaviest(self):
        ahead = [flight(), person(0), box(0, 20, 2000)] + [bag(0, 100)] * 20
        ahead = ahead + [load(number, 0) for number in range(19, -1, -1)]
        self.check_answers(ahead, [list_of(0)], [[2000, 20] + list(range(19, -1, -1))])

    def test_flown(self):
        self.check_answers(PILED + [aboard(0), goes(0)], [list_of(0), list_of(1)], [[0, 0], [123, 3, 2, 0, 1]])

    def test_no_such_container(self):
        self.check_refused(PILED, list_of(2), -2)
        self.check_refused(PILED, list_of(LARGEST), -2)


class StateTest(AirportCase):
    def test_nothing_there(self):
        self.check_answers([], [state()], [[0, 0, 0, 0, 0]])

    def test_flights_alone(self):
        self.check_answers([flight(), flight(), goes(1)], [state()], [[0, 2, 0, 1, 0, 0, 0]])

    def test_written_out(self):
        self.check_answers(PILED, [state()], [[
            3, 1, 0, 2, 0, 0, 12, 0, 100, 1, 0, 0, 20, 1, 0, 0, 3, 1, 0, 8, 0, 5, 500, 0, 0, 5, 500, 3,
        ]])

    def test_each_standing_and_each_place(self):
        # Passenger 0 flies and leaves bag 1 behind, which follows; 1 is expected, 2 not coming, 3 aboard.
        calls = [
            flight(), flight(), flight(), person(0), person(1), person(0), person(2),
            box(0, 2, 200), box(1, 1, 1), box(2, 20, 2000), box(0, 3, 30),
            bag(0, 100), bag(0, 1), bag(1, 2), bag(2, 3), bag(2, 4), bag(3, 5), bag(0, 6),
            load(0, 0), load(3, 0), load(4, 3), load(5, 2),
            aboard(0), absent(2), aboard(3), clear(0), goes(0), hand(4), rush(1), load(1, 1), rush(6),
        ]
        self.assertEqual(run(calls)[-8:], [2, 0, [2, 2, 3, 4], 1, 0, 0, 1, 0])
        self.check_state(
            calls, 7, [[1], [0], [0]], [[0, 1], [1, 0], [0, 2], [2, 1]],
            [
                [0, 100, 2, 0], [0, 1, 1, 1], [1, 2, 0, 0], [2, 3, 0, 0], [2, 4, 3, 0], [3, 5, 1, 0], [0, 6, 0, 1],
            ],
            [[0, 2, 200, 1], [1, 1, 1, 1], [2, 20, 2000, 1], [0, 3, 30, 0]],
        )
        self.check_state(
            calls + [goes(1), next_on(2, 2), absent(1)], 7, [[1], [1], [0]], [[0, 1], [1, 0], [2, 0], [2, 1]],
            [
                [0, 100, 2, 0], [0, 1, 2, 1], [1, 2, 0, 0], [2, 3, 0, 0], [2, 4, 3, 0], [3, 5, 1, 0], [0, 6, 0, 1],
            ],
            [[0, 2, 200, 1], [1, 1, 1, 1], [2, 20, 2000, 1], [0, 3, 30, 0]],
        )

    def test_standings_one_after_another(self):
        for ahead, standing in (
            ([], 0), ([aboard(0)], 1), ([absent(0)], 2), ([aboard(0), leaves(0)], 2), ([absent(0), next_on(0, 0)], 0),
            ([aboard(0), goes(0)], 1), ([absent(0), goes(0)], 2), ([goes(0)], 0),
        ):
            gone = 1 if goes(0) in ahead else 0
            self.check_answers([flight(), person(0)] + ahead, [state()], [[0, 1, gone, 2, 0, standing, 0, 0]])

    def test_moves_of_load_out_and_clear(self):
        calls = [state(), out(2), state(), absent(0), state(), clear(0), state(), clear(0), state()]
        made = [given[0] for given in run(PILED + calls)[len(PILED)::2]]
        self.assertEqual(made, [3, 8, 8, 10, 10])

    def test_all_that_can_be_there(self):
        told = [flight()] * 8 + [person(7)] * 10 + [box(6, 20, 2000)] * 12 + [bag(9, 100)] * 49
        given = run(told + [state()])[-1]
        self.assertEqual(len(told), 79)
        self.assertEqual(
            given, [0, 8] + [0] * 8 + [20] + [7, 0] * 10 + [196] + [9, 100, 0, 0] * 49 + [48] + [6, 20, 2000, 0] * 12
        )


class NothingChangedTest(AirportCase):
    def test_telling_changes_nothing(self):
        look = [state(), where(0), where(1), where(2), list_of(0), list_of(1)]
        given = run(PILED + look)[len(PILED):]
        self.check_answers(PILED, look + look, given + given)


if __name__ == "__main__":
    unittest.main()
