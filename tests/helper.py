"""Names for the calls, and ways to run them one after another and look at what came of them."""

import unittest

from bagsaboard.airport import Airport, answer_call, answers

LARGEST = 4294967295


def flight():
    return [0]


def box(flight_number, bags, heavy):
    return [1, flight_number, bags, heavy]


def person(flight_number):
    return [2, flight_number]


def bag(owner, weight):
    return [3, owner, weight]


def load(bag_number, box_number):
    return [4, bag_number, box_number]


def aboard(person_number):
    return [5, person_number]


def leaves(person_number):
    return [6, person_number]


def absent(person_number):
    return [7, person_number]


def rush(bag_number):
    return [8, bag_number]


def out(bag_number):
    return [9, bag_number]


def moves(flight_number):
    return [10, flight_number]


def clear(flight_number):
    return [11, flight_number]


def goes(flight_number):
    return [12, flight_number]


def hand(bag_number):
    return [13, bag_number]


def waits(flight_number):
    return [14, flight_number]


def next_on(person_number, flight_number):
    return [15, person_number, flight_number]


def where(bag_number):
    return [16, bag_number]


def list_of(box_number):
    return [17, box_number]


def state():
    return [18]


def joined(calls):
    return [number for call in calls for number in call]


def split_answers(given):
    """The answers, a list each, from what `answers` gives back."""
    found = []
    start = 0
    while start < len(given):
        end = start + 1 + given[start]
        found.append(given[start + 1:end])
        start = end
    return found


def run(calls):
    """Each call's answer: a number where it is one alone, a list where lists come with it."""
    found = split_answers(answers(joined(calls)))
    if len(found) != len(calls):
        raise AssertionError(f"not one answer for each call: {found!r}")
    return [answer[0] if len(answer) == 1 else answer for answer in found]


def airport_after(calls):
    airport = Airport()
    for call in calls:
        answer_call(airport, call[0], call[1:])
    return airport


def snapshot(thing):
    """All that an airport keeps, as plain values that later calls can't change."""
    if isinstance(thing, (list, tuple)):
        return [snapshot(part) for part in thing]
    if isinstance(thing, dict):
        return {key: snapshot(part) for key, part in thing.items()}
    if hasattr(thing, "__dict__"):
        return snapshot(vars(thing))
    return thing


class AirportCase(unittest.TestCase):
    def check_answers(self, ahead, calls, expected):
        """What `calls` answer behind the calls `ahead`."""
        self.assertEqual(run(ahead + calls)[len(ahead):], expected)

    def check_refused_on(self, airport, call, refusal):
        before = snapshot(airport)
        self.assertEqual(answer_call(airport, call[0], call[1:]), [refusal])
        self.assertEqual(snapshot(airport), before)

    def check_refused(self, ahead, call, refusal):
        """The call is refused so behind the calls `ahead`, and all is as it was."""
        airport = airport_after(ahead)
        look = [state()] + [list_of(number) for number in range(len(airport.containers))]
        self.check_answers(ahead, [call] + look, [refusal] + run(ahead + look)[len(ahead):])
        self.check_refused_on(airport, call, refusal)

    def check_state(self, calls, made, flights, persons, bags, boxes):
        """What state answers behind the calls, each list told as rows."""
        expected = [made]
        for rows in (flights, persons, bags, boxes):
            numbers = joined(rows)
            expected = expected + [len(numbers)] + numbers
        self.check_answers(calls, [state()], [expected])
