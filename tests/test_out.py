"""Point 5, of out."""

import unittest

from tests.helper import (
    LARGEST, AirportCase, aboard, absent, bag, box, flight, goes, hand, list_of, load, out, person, run, state,
)

FOUR = [flight(), person(0), box(0, 4, 10), box(0, 5, 50)] + [bag(0, 1)] * 5
PILED = FOUR + [load(0, 0), load(1, 0), load(2, 0), load(3, 0)]


def moves_by_hand(pile, wanted):
    """Takes out and puts back one bag after another; answers how many moves, and the pile then."""
    pile = list(pile)
    beside = []
    moves = 0
    while wanted in pile:
        beside.append(pile.pop())
        moves += 1
    beside.remove(wanted)
    while beside:
        pile.append(beside.pop())
        moves += 1
    return moves, pile


class OutTest(AirportCase):
    def test_topmost(self):
        self.check_answers(PILED, [out(3), out(2), out(1), out(0)], [1, 1, 1, 1])

    def test_lowest(self):
        self.check_answers(PILED, [out(0), out(1), out(2), out(3)], [7, 5, 3, 1])

    def test_one_between(self):
        self.check_answers(PILED, [out(1), out(0)], [5, 5])
        self.check_answers(PILED, [out(2), out(0)], [3, 5])

    def test_only_one(self):
        self.check_answers(FOUR + [load(2, 1)], [out(2)], [1])

    def test_others_lie_as_they_lay(self):
        self.check_answers(PILED + [out(1)], [list_of(0)], [[3, 3, 0, 2, 3]])
        self.check_answers(PILED + [out(1)], [out(2)], [3])
        self.check_answers(PILED + [out(1)], [out(3)], [1])

    def test_other_containers_do_not_count(self):
        ahead = FOUR + [load(0, 0), load(1, 1), load(2, 0), load(3, 1)]
        self.check_answers(ahead, [out(0), out(3), out(1), out(2)], [3, 1, 1, 1])

    def test_in_the_hall_again(self):
        self.check_answers(PILED, [out(0), out(0), load(0, 0), out(0), load(0, 1)], [7, -4, 4, 1, 1])

    def test_loaded_again_lies_on_top(self):
        self.check_answers(PILED, [out(0), load(0, 0), out(1), out(0)], [7, 4, 7, 1])

    def test_comes_out_whatever_its_owner_does(self):
        self.check_answers(PILED + [absent(0)], [out(1), load(1, 0)], [5, -6])

    def test_full_container_of_twenty(self):
        ahead = [flight(), person(0), box(0, 20, 2000)] + [bag(0, 100)] * 20
        ahead = ahead + [load(number, 0) for number in range(20)]
        self.check_answers(ahead, [out(0)], [39])
        self.check_answers(ahead, [out(10)], [19])
        self.check_answers(ahead, [out(19)], [1])

    def test_moves_are_added_up(self):
        self.assertEqual(run(PILED + [out(1), out(1), state()])[-1][0], 9)

    def test_as_by_hand(self):
        for seed in range(5 * 4 * 3):
            wishes = [seed % 5, seed % 4, seed % 3]
            pile = [0, 1, 2, 3, 4]
            calls = [flight(), person(0), box(0, 5, 50)] + [bag(0, 1)] * 5 + [load(number, 0) for number in pile]
            for wish in wishes:
                wanted = pile[wish]
                moves, pile = moves_by_hand(pile, wanted)
                calls = calls + [out(wanted)]
                self.assertEqual(run(calls + [list_of(0)])[-2:], [moves, [len(pile), len(pile)] + pile])


class RefusedTest(AirportCase):
    def test_no_such_bag(self):
        self.check_refused(PILED, out(5), -2)
        self.check_refused(PILED, out(LARGEST), -2)

    def test_not_loaded(self):
        self.check_refused(PILED, out(4), -4)
        self.check_refused(PILED + [out(1)], out(1), -4)

    def test_flown_or_handed_out(self):
        self.check_refused(PILED + [aboard(0), goes(0)], out(0), -4)
        self.check_refused(FOUR + [absent(0), hand(0)], out(0), -4)


if __name__ == "__main__":
    unittest.main()
