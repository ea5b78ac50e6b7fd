"""Names for the calls, and ways to run them one after another and look at what came of them."""

import unittest

from bagsaboard.airport import Airport, answer_call, answers

LARGEST = 4294967295


def flight():
    return [0]


def box(flight_number, bags, heavy):
    return [1, flight_number, bags, heavy]


def person(flight_number):
    return [2, flight_number]


def bag(owner, weight):
    return [3, owner, weight]


def load(bag_number, box_number):
    return [4, bag_number, box_number]


def aboard(person_number):
    return [5, person_number]


def leaves(person_number):
    return [6, person_number]


def absent(person_number):
    return [7, person_number]


def rush(bag_number):
    return [8, bag_number]


def out(bag_number):
    return [9, bag_number]


def joined(calls):
    return [number for call in calls for number in call]


def split_answers(given):
    """The answers, a list each, from what `answers` gives back."""
    found = []
    start = 0
    while start < len(given):
        end = start + 1 + given[start]
        found.append(given[start + 1:end])
        start = end
    return found


def run(calls):
    """The first number of each call's answer; the calls told here answer one number each."""
    found = split_answers(answers(joined(calls)))
    if len(found) != len(calls) or any(len(answer) != 1 for answer in found):
        raise AssertionError(f"not one number for each call: {found!r}")
    return [answer[0] for answer in found]


def airport_after(calls):
    airport = Airport()
    for call in calls:
        answer_call(airport, call[0], call[1:])
    return airport


def snapshot(thing):
    """All that an airport keeps, as plain values that later calls can't change."""
    if isinstance(thing, (list, tuple)):
        return [snapshot(part) for part in thing]
    if isinstance(thing, dict):
        return {key: snapshot(part) for key, part in thing.items()}
    if hasattr(thing, "__dict__"):
        return snapshot(vars(thing))
    return thing


class AirportCase(unittest.TestCase):
    def check_answers(self, ahead, calls, expected):
        """What `calls` answer behind the calls `ahead`."""
        self.assertEqual(run(ahead + calls)[len(ahead):], expected)

    def check_refused_on(self, airport, call, refusal):
        before = snapshot(airport)
        self.assertEqual(answer_call(airport, call[0], call[1:]), [refusal])
        self.assertEqual(snapshot(airport), before)

    def check_refused(self, ahead, call, refusal):
        """The call is refused so behind the calls `ahead`, and all is as it was."""
        self.check_answers(ahead, [call], [refusal])
        self.check_refused_on(airport_after(ahead), call, refusal)
