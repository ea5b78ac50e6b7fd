"""Many lines of calls, answered by the program and by the model alike."""

import unittest

from bagsaboard.airport import answers
from tests.helper import LARGEST, joined, split_answers
from tests.model import Model

# How often each call stands in a line, by its number: bags have to be loaded before much can come of the others.
OFTEN = [1, 1, 1, 4, 40, 5, 4, 4, 4, 3, 5, 3, 3, 3, 3, 4, 2, 2, 1]
AHEAD = [[0], [0], [2, 0], [2, 1], [1, 0, 6, 300], [1, 1, 6, 300]]
MORE_AHEAD = [[2, 0], [2, 0], [2, 1], [1, 0, 4, 250]] + [[3, number % 5, 20 + number] for number in range(12)]
REFUSALS = {
    0: [-5], 1: [-2, -4, -1, -5], 2: [-2, -4, -5], 3: [-2, -4, -1, -5], 4: [-2, -4, -7, -6, -5], 5: [-2, -4],
    6: [-2, -4], 7: [-2, -4], 8: [-2, -4, -7], 9: [-2, -4], 10: [-2, -4], 11: [-2, -4], 12: [-2, -4, -6],
    13: [-2, -4, -7], 14: [-2, -4], 15: [-2, -4, -6], 16: [-2], 17: [-2], 18: [],
}


class Numbers:
    """The same numbers on every Python and every day."""

    def __init__(self, seed):
        self.seed = seed

    def below(self, most):
        self.seed = (self.seed * 6364136223846793005 + 1442695040888963407) % 2 ** 64
        return (self.seed >> 33) % most


def one_of(numbers, count):
    """Mostly one that is there, else the first that isn't, or one far off."""
    chance = numbers.below(40)
    if chance == 0 or count == 0:
        return count
    if chance == 1:
        return LARGEST
    return numbers.below(count)


def size(numbers, most):
    chance = numbers.below(40)
    if chance < 4:
        return [0, 1, most, most + 1][chance]
    return 1 + numbers.below(most)


def some_call(numbers, model, often):
    call = numbers.below(sum(often))
    number = 0
    while call >= often[number]:
        call -= often[number]
        number += 1
    told = {
        "flight": len(model.gone), "person": len(model.stands), "bag": len(model.bags), "box": len(model.boxes),
    }
    kinds = {
        0: [], 1: ["flight"], 2: ["flight"], 3: ["person"], 4: ["bag", "box"], 5: ["person"], 6: ["person"],
        7: ["person"], 8: ["bag"], 9: ["bag"], 13: ["bag"], 15: ["person", "flight"], 16: ["bag"], 17: ["box"], 18: [],
    }.get(number, ["flight"])
    made = [number] + [one_of(numbers, told[kind]) for kind in kinds]
    if number == 1:
        made += [size(numbers, 20), size(numbers, 2000)]
    if number == 3:
        made += [size(numbers, 100)]
    return made


def some_line(seed):
    """A line of 80 calls, the model's answers to them, and the model then."""
    numbers = Numbers(seed)
    often = list(OFTEN)
    calls = AHEAD + MORE_AHEAD
    # Some lines tell so much that there is no room for more.
    if seed % 10 == 0:
        often[seed // 10 % 4] = 3000
        calls = list(AHEAD)
    model = Model()
    expected = [model.answer(call) for call in calls]
    while len(calls) < 79:
        calls.append(some_call(numbers, model, often))
        expected.append(model.answer(calls[-1]))
    calls.append([18])
    expected.append(model.answer([18]))
    return calls, expected, model


class ModelTest(unittest.TestCase):
    def test_answers_are_the_models(self):
        met = {number: {} for number in REFUSALS}
        for seed in range(2000):
            calls, expected, model = some_line(seed)
            given = split_answers(answers(joined(calls)))
            for call, answer, wanted in zip(calls, given, expected):
                self.assertEqual(answer, wanted, f"seed {seed}: {call}")
                met[call[0]][min(answer[0], 0)] = True
            self.assertEqual(len(given), len(calls))
            self.check_promised(model)
        # Nothing is proved by lines that never come to a refusal or an answer.
        for number, refusals in REFUSALS.items():
            self.assertEqual(sorted(met[number]), sorted(refusals + [0]), f"call {number}")

    def check_promised(self, model):
        """Nothing flies whose owner hasn't; each bag is in one place."""
        lying = [bag for box in model.boxes for bag in box["pile"]]
        self.assertEqual(len(lying), len(set(lying)))
        for number, bag in enumerate(model.bags):
            self.assertEqual(number in lying, bag["place"] in ("loaded", "flown"))
            if bag["place"] == "flown":
                self.assertEqual(model.stands[bag["owner"]], "flown")


if __name__ == "__main__":
    unittest.main()
