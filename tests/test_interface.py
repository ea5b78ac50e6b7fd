"""The interface: the form of what is handed in and given back, and that nothing is kept."""

import contextlib
import io
import sys
import unittest

from bagsaboard.airport import answers
from tests.helper import (
    LARGEST, AirportCase, aboard, absent, bag, box, clear, flight, goes, hand, joined, leaves, list_of, load, moves,
    next_on, out, person, run, rush, split_answers, state, waits, where,
)

ORDINARY = [flight(), box(0, 2, 50), person(0), bag(0, 7), load(0, 0), aboard(0), out(0), rush(0)]
REFUSED = [
    box(1, 1, 1), box(0, 0, 1), person(1), bag(1, 1), bag(0, 0), load(1, 0), load(0, 1), load(0, 0),
    aboard(1), rush(0), rush(1), out(1), leaves(0), leaves(1), absent(1), moves(1), clear(1), goes(1), goes(0),
    hand(0), hand(1), waits(1), next_on(0, 0), next_on(1, 0), next_on(0, 1), where(1), list_of(1),
]
# A line in which each call has an ordinary answer.
WHOLE = [
    flight(), flight(), box(0, 5, 50), box(1, 5, 50), person(0), person(0), bag(0, 7), bag(1, 8), bag(0, 9), bag(1, 10),
    load(1, 0), load(0, 0), load(3, 0), waits(0), aboard(0), aboard(1), leaves(1), moves(0), state(), out(3), clear(0),
    where(0), where(1), list_of(0), list_of(1), goes(0), rush(2), load(2, 1), hand(1), where(1), next_on(1, 1),
    absent(1), goes(1), where(2), state(),
]


class FormTest(AirportCase):
    def test_each_call_number(self):
        calls = [0, 1, 0, 2, 50, 2, 0, 2, 0, 3, 0, 7, 4, 0, 0, 5, 0, 6, 0, 7, 1, 8, 0, 9, 0]
        self.assertEqual(answers(calls), [1, 0, 1, 0, 1, 0, 1, 1, 1, 0, 1, 1, 1, 0, 1, 1, 1, 1, 1, -4, 1, 1])

    def test_each_call_number_with_its_lists(self):
        calls = [
            0, 0, 1, 0, 2, 50, 2, 0, 2, 0, 3, 0, 7, 3, 1, 8, 4, 1, 0, 4, 0, 0, 5, 0, 7, 1,
            10, 0, 14, 0, 11, 0, 14, 0, 12, 0, 13, 1, 15, 1, 1, 16, 0, 16, 1, 17, 0, 18,
        ]
        told = [1, 0, 1, 1, 1, 0, 1, 0, 1, 1, 1, 0, 1, 1, 1, 1, 1, 2, 1, 1, 1, 1]
        asked = [1, 3, 3, 1, 1, 1, 3, 3, 1, 1, 2, 0, 0, 1, 1, 1, 0, 1, 0, 4, 2, 2, 0, 0, 2, 3, 0, 3, 7, 1, 0]
        shown = [23, 5, 2, 1, 0, 4, 0, 1, 1, 0, 8, 0, 7, 2, 0, 1, 8, 3, 0, 4, 0, 2, 50, 1]
        self.assertEqual(answers(calls), told + asked + shown)

    def test_each_call_in_one_line(self):
        self.assertEqual(sorted({call[0] for call in WHOLE}), list(range(19)))
        self.assertEqual(run(WHOLE), [
            0, 1, 0, 1, 0, 1, 0, 1, 2, 3, 1, 2, 3, [3, 3, 1, 0, 3], 2, 0, 2, 4,
            [3, 2, 0, 0, 4, 0, 1, 0, 2, 16, 0, 7, 1, 0, 1, 8, 1, 0, 0, 9, 0, 0, 1, 10, 1, 0]
            + [8, 0, 5, 50, 3, 1, 5, 50, 0],
            1, [3, 1, 1], [1, 2, 0, 0], [0, 0], [7, 1, 0], [0, 0], 1, 0, 1, 0, [3, 0], 0, 0, 1, [2, 2, 1, 0],
            [8, 2, 1, 1, 4, 0, 1, 1, 2, 16, 0, 7, 2, 0, 1, 8, 3, 0, 0, 9, 2, 1, 1, 10, 0, 0]
            + [8, 0, 5, 50, 1, 1, 5, 50, 1],
        ])

    def test_answer_with_lists_is_never_below_0(self):
        for answer in split_answers(answers(joined(WHOLE))):
            self.assertGreaterEqual(min(answer), 0)

    def test_one_call(self):
        self.assertEqual(answers([0]), [1, 0])
        self.assertEqual(answers([9, LARGEST]), [1, -2])

    def test_refusal_is_a_number_alone(self):
        self.assertEqual(answers([2, 0, 0, 1, 0, 0, 0]), [1, -2, 1, 0, 1, -1])

    def test_eighty_calls(self):
        calls = [flight(), person(0), box(0, 20, 2000)] + [bag(0, 1)] * 60 + [load(n, 0) for n in range(17)]
        given = answers(joined(calls))
        self.assertEqual(len(calls), 80)
        self.assertEqual(given[0::2], [1] * 80)
        self.assertEqual(given[1::2], [0, 0, 0] + list(range(60)) + list(range(1, 18)))

    def test_whole_numbers_in_a_list(self):
        for calls in (ORDINARY + REFUSED, WHOLE):
            given = answers(joined(calls))
            self.assertIs(type(given), list)
            self.assertEqual({type(number) for number in given}, {int})

    def test_largest_numbers(self):
        for call, more in (
            (1, 3), (2, 1), (3, 2), (4, 2), (5, 1), (6, 1), (7, 1), (8, 1), (9, 1), (10, 1), (11, 1), (12, 1), (13, 1),
            (14, 1), (15, 2), (16, 1), (17, 1),
        ):
            self.assertEqual(answers([0, call] + [LARGEST] * more), [1, 0, 1, -2])

    def test_eighty_states(self):
        calls = [flight()] * 8 + [state()] * 72
        self.assertEqual(run(calls)[8:], [[0, 8] + [0] * 8 + [0, 0, 0]] * 72)


class NothingChangedTest(AirportCase):
    def test_what_is_handed_in_is_as_it_was(self):
        for calls in (joined(ORDINARY + REFUSED), joined(WHOLE)):
            before = list(calls)
            answers(calls)
            self.assertEqual(calls, before)

    def test_what_is_handed_in_is_not_changed_for_a_while(self):
        class Guarded(list):
            def refuse(self, *given):
                raise AssertionError("the list handed in was changed")

            append = extend = insert = pop = remove = clear = sort = reverse = refuse
            __setitem__ = __delitem__ = __iadd__ = __imul__ = refuse

        for calls in (joined(ORDINARY + REFUSED), joined(WHOLE)):
            self.assertEqual(answers(Guarded(calls)), answers(calls))

    def test_what_is_given_back_is_new(self):
        calls = joined(ORDINARY)
        first = answers(calls)
        kept = list(first)
        first.clear()
        self.assertEqual(answers(calls), kept)

    def test_nothing_is_kept(self):
        calls = joined([flight()] * 8 + [person(0)] * 40 + [box(0, 1, 1)] * 12)
        self.assertEqual(answers(calls), answers(calls))
        self.assertEqual(answers([2, 0]), [1, -2])
        self.assertEqual(answers([0]), [1, 0])

    def test_two_lines_do_not_know_of_one_another(self):
        first = answers(joined(WHOLE))
        self.assertEqual(answers([18]), [5, 0, 0, 0, 0, 0])
        self.assertEqual(answers(joined(WHOLE)), first)
        answers(joined([flight(), goes(0)]))
        self.assertEqual(run([flight(), goes(0), goes(0)]), [0, 0, -4])

    def test_prints_and_reads_nothing(self):
        printed = io.StringIO()
        told = sys.stdin
        sys.stdin = None
        try:
            with contextlib.redirect_stdout(printed), contextlib.redirect_stderr(printed):
                answers(joined(WHOLE))
        finally:
            sys.stdin = told
        self.assertEqual(printed.getvalue(), "")

    def test_refused_calls_change_no_later_answer(self):
        ahead = ORDINARY[:5]
        later = [
            state(), waits(0), bag(0, 3), person(0), box(0, 1, 2), flight(), out(0), load(1, 0), load(0, 0), load(1, 1),
            out(1), list_of(0), list_of(1), aboard(0), goes(0), state(),
        ]
        plain = run(ahead + later)
        mixed = run(ahead + REFUSED + later)
        behind = len(ahead) + len(REFUSED)
        self.assertTrue(all(answer < 0 for answer in mixed[len(ahead):behind]))
        self.assertEqual(mixed[behind:], plain[len(ahead):])


if __name__ == "__main__":
    unittest.main()
