"""The interface: the form of what is handed in and given back, and that nothing is kept."""

import unittest

from bagsaboard.airport import answers
from tests.helper import LARGEST, AirportCase, aboard, bag, box, flight, joined, load, out, person, rush

ORDINARY = [flight(), box(0, 2, 50), person(0), bag(0, 7), load(0, 0), aboard(0), out(0), rush(0)]
REFUSED = [
    box(1, 1, 1), box(0, 0, 1), person(1), bag(1, 1), bag(0, 0), load(1, 0), load(0, 1), load(0, 0),
    aboard(1), rush(0), rush(1), out(1), [6, 0], [6, 1], [7, 1],
]


class FormTest(AirportCase):
    def test_each_call_number(self):
        calls = [0, 1, 0, 2, 50, 2, 0, 2, 0, 3, 0, 7, 4, 0, 0, 5, 0, 6, 0, 7, 1, 8, 0, 9, 0]
        self.assertEqual(answers(calls), [1, 0, 1, 0, 1, 0, 1, 1, 1, 0, 1, 1, 1, 0, 1, 1, 1, 1, 1, -4, 1, 1])

    def test_one_call(self):
        self.assertEqual(answers([0]), [1, 0])
        self.assertEqual(answers([9, LARGEST]), [1, -2])

    def test_refusal_is_a_number_alone(self):
        self.assertEqual(answers([2, 0, 0, 1, 0, 0, 0]), [1, -2, 1, 0, 1, -1])

    def test_eighty_calls(self):
        calls = [flight(), person(0), box(0, 20, 2000)] + [bag(0, 1)] * 60 + [load(n, 0) for n in range(17)]
        given = answers(joined(calls))
        self.assertEqual(len(calls), 80)
        self.assertEqual(given[0::2], [1] * 80)
        self.assertEqual(given[1::2], [0, 0, 0] + list(range(60)) + list(range(1, 18)))

    def test_whole_numbers_in_a_list(self):
        given = answers(joined(ORDINARY + REFUSED))
        self.assertIs(type(given), list)
        self.assertEqual({type(number) for number in given}, {int})

    def test_largest_numbers(self):
        for call, more in ((1, 3), (2, 1), (3, 2), (4, 2), (5, 1), (6, 1), (7, 1), (8, 1), (9, 1)):
            self.assertEqual(answers([0, call] + [LARGEST] * more), [1, 0, 1, -2])


class NothingChangedTest(AirportCase):
    def test_what_is_handed_in_is_as_it_was(self):
        calls = joined(ORDINARY + REFUSED)
        before = list(calls)
        answers(calls)
        self.assertEqual(calls, before)

    def test_what_is_handed_in_is_not_changed_for_a_while(self):
        class Guarded(list):
            def refuse(self, *given):
                raise AssertionError("the list handed in was changed")

            append = extend = insert = pop = remove = clear = sort = reverse = refuse
            __setitem__ = __delitem__ = __iadd__ = __imul__ = refuse

        calls = joined(ORDINARY + REFUSED)
        self.assertEqual(answers(Guarded(calls)), answers(calls))

    def test_what_is_given_back_is_new(self):
        calls = joined(ORDINARY)
        first = answers(calls)
        kept = list(first)
        first.clear()
        self.assertEqual(answers(calls), kept)

    def test_nothing_is_kept(self):
        calls = joined([flight()] * 8 + [person(0)] * 40 + [box(0, 1, 1)] * 12)
        self.assertEqual(answers(calls), answers(calls))
        self.assertEqual(answers([2, 0]), [1, -2])
        self.assertEqual(answers([0]), [1, 0])

    def test_refused_calls_change_no_later_answer(self):
        later = [bag(0, 3), person(0), box(0, 1, 2), flight(), out(0), load(1, 0), load(0, 0), load(1, 1), out(1)]
        plain = answers(joined(ORDINARY[:5] + later))
        mixed = answers(joined(ORDINARY[:5] + REFUSED + later))
        self.assertTrue(all(number < 0 for number in mixed[10:10 + 2 * len(REFUSED)][1::2]))
        self.assertEqual(mixed[10 + 2 * len(REFUSED):], plain[10:])


if __name__ == "__main__":
    unittest.main()
