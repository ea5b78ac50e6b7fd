"""Point 5, of moves and clear."""

import itertools
import unittest

from tests.helper import (
    LARGEST, AirportCase, aboard, absent, bag, box, clear, flight, goes, leaves, list_of, load, moves, out, person, run,
    state, waits, where,
)

# Passenger 0 stays, 1 does not come; bags 0 to 4 are of 0, bags 5 to 9 of 1; bag 5 weighs 6, and so on.
READY = (
    [flight(), flight(), person(0), person(0), box(0, 5, 100), box(1, 5, 100), box(0, 5, 100)]
    + [bag(0, number + 1) for number in range(5)] + [bag(1, number + 1) for number in range(5, 10)]
)


def piled(numbers, box_number):
    return [load(number, box_number) for number in numbers]


def cleared_by_hand(pile, wanted):
    """Move after move; answers how many, and the pile then."""
    pile = list(pile)
    beside = []
    count = 0
    while any(number in wanted for number in pile):
        beside.append(pile.pop())
        count += 1
    for number in reversed(beside):
        if number not in wanted:
            pile.append(number)
            count += 1
    return count, pile


class OneContainerTest(AirportCase):
    def check_clear(self, pile, count, came_out, left):
        ahead = READY + piled(pile, 0) + [aboard(0), absent(1)]
        made = run(ahead + [state()])[-1][0]
        lying = [sum(number + 1 for number in left), len(left)] + left
        self.check_answers(ahead, [moves(0), clear(0), list_of(0)], [count, [count, len(came_out)] + came_out, lying])
        self.assertEqual(run(ahead + [clear(0), state()])[-1][0], made + count)
        for number in came_out:
            self.check_answers(ahead + [clear(0)], [where(number)], [[0, 0]])
        self.check_answers(ahead + [clear(0)], [waits(0), moves(0), clear(0)], [[0, 0], 0, [0, 0]])

    def test_none_has_to_come_out(self):
        self.check_clear([0, 1, 2], 0, [], [0, 1, 2])
        self.check_clear([], 0, [], [])

    def test_the_only_one(self):
        self.check_clear([5], 1, [5], [])

    def test_the_topmost(self):
        self.check_clear([0, 1, 5], 1, [5], [0, 1])

    def test_the_lowest(self):
        self.check_clear([5, 0, 1], 5, [5], [0, 1])

    def test_one_between(self):
        self.check_clear([3, 5, 1, 2], 5, [5], [3, 1, 2])

    def test_several_with_others_between(self):
        self.check_clear([0, 6, 1, 5, 2], 6, [6, 5], [0, 1, 2])
        self.check_clear([9, 4, 8, 3, 7], 7, [9, 8, 7], [4, 3])

    def test_several_side_by_side(self):
        self.check_clear([0, 7, 6, 1], 4, [7, 6], [0, 1])
        self.check_clear([0, 1, 7, 6], 2, [7, 6], [0, 1])

    def test_all(self):
        self.check_clear([9, 8, 7, 6, 5], 5, [9, 8, 7, 6, 5], [])

    def test_as_by_hand(self):
        for kinds in itertools.product((0, 5), repeat=4):
            pile = [kind + place for place, kind in enumerate(kinds)]
            wanted = [number for number in pile if number >= 5]
            count, left = cleared_by_hand(pile, wanted)
            self.check_clear(pile, count, wanted, left)

    def test_not_more_than_one_after_another(self):
        ahead = READY + piled([5, 0, 6, 1, 7], 0) + [absent(1)]
        self.check_answers(ahead, [out(5), out(6), out(7)], [9, 5, 1])
        self.check_answers(ahead, [clear(0)], [[7, 3, 5, 6, 7]])

    def test_full_container_of_twenty(self):
        ahead = [flight(), person(0), person(0), box(0, 20, 2000), bag(1, 100)] + [bag(0, 100)] * 19
        ahead = ahead + piled(range(20), 0) + [absent(1)]
        self.check_answers(ahead, [moves(0), clear(0), list_of(0)], [39, [39, 1, 0], [1900, 19] + list(range(1, 20))])


class StandingTest(AirportCase):
    def test_bags_of_the_expected_stay(self):
        ahead = READY + piled([5, 0], 0)
        self.check_answers(ahead, [moves(0), clear(0), waits(0)], [0, [0, 0], [2, 2, 5, 0]])

    def test_bags_of_the_aboard_stay(self):
        self.check_answers(READY + piled([5, 0], 0) + [aboard(0), aboard(1)], [moves(0), clear(0)], [0, [0, 0]])

    def test_bags_of_who_left_come_out(self):
        ahead = READY + piled([5, 0], 0) + [aboard(1), leaves(1)]
        self.check_answers(ahead, [moves(0), clear(0), waits(0)], [3, [3, 1, 5], [1, 1, 0]])

    def test_bags_of_several_owners(self):
        ahead = READY + piled([5, 0, 6], 0) + [absent(0), absent(1)]
        self.check_answers(ahead, [moves(0), clear(0)], [3, [3, 3, 5, 0, 6]])


class FlightTest(AirportCase):
    def test_no_container(self):
        self.check_answers([flight()], [moves(0), clear(0)], [0, [0, 0]])

    def test_containers_without_bags(self):
        self.check_answers(READY + [absent(1)], [moves(0), clear(0)], [0, [0, 0]])

    def test_several_containers_with_one_of_another_flight_between(self):
        ahead = READY + [person(1), bag(2, 50), bag(2, 49), load(10, 1), load(11, 1)]
        ahead = ahead + piled([6, 1, 5], 2) + piled([0, 8, 2, 7], 0) + [absent(1), absent(2)]
        self.check_answers(
            ahead, [moves(0), clear(0), list_of(0), list_of(1), list_of(2)],
            [8, [8, 4, 8, 7, 6, 5], [4, 2, 0, 2], [99, 2, 10, 11], [2, 1, 1]],
        )
        self.check_answers(ahead, [moves(1), clear(1), moves(0)], [2, [2, 2, 10, 11], 8])
        self.assertEqual(run(ahead + [clear(0), clear(1), state()])[-1][0], 9 + 8 + 2)

    def test_one_of_several_containers(self):
        ahead = READY + piled([0, 1], 0) + piled([5, 2], 2) + [absent(1)]
        self.check_answers(ahead, [moves(0), clear(0), list_of(0)], [3, [3, 1, 5], [3, 2, 0, 1]])

    def test_what_came_out_leaves_its_room(self):
        ahead = READY + piled([5, 6, 7, 8, 0], 0) + [absent(1)]
        self.check_answers(ahead, [load(1, 0), clear(0), load(1, 0), load(5, 0)], [-5, [6, 4, 5, 6, 7, 8], 2, -6])

    def test_bags_in_the_hall_do_not_count(self):
        self.check_answers(READY + [absent(0), absent(1)], [moves(0), clear(0)], [0, [0, 0]])


class MovesTest(AirportCase):
    def test_changes_nothing(self):
        ahead = READY + piled([5, 0, 6], 0) + piled([1, 7], 2) + [absent(1)]
        look = [state(), list_of(0), list_of(1), list_of(2), waits(0), where(5), where(7)]
        plain = run(ahead + look)[len(ahead):]
        self.check_answers(ahead, [moves(0), moves(0), moves(1)] + look, [5, 5, 0] + plain)


class RefusedTest(AirportCase):
    def test_no_such_flight(self):
        for call in (moves, clear):
            self.check_refused(READY, call(2), -2)
            self.check_refused(READY, call(LARGEST), -2)
            self.check_refused([], call(0), -2)

    def test_flight_that_has_gone(self):
        for call in (moves, clear):
            self.check_refused([flight(), goes(0)], call(0), -4)
            self.check_refused(READY + piled([0], 0) + [aboard(0), absent(1), goes(0)], call(0), -4)
            self.check_refused([flight(), goes(0)], call(1), -2)

    def test_other_flight_has_gone(self):
        self.check_answers(READY + piled([5], 0) + [absent(1), goes(1)], [moves(0), clear(0)], [1, [1, 1, 5]])


if __name__ == "__main__":
    unittest.main()
