"""Many lines of calls, each answer held against the one that is worked out the long way."""

import random
import unittest

from roadvotes.roads import answers
from tests.lines import LARGEST, apart, flat
from tests.slow import Slow

CHANGES = (1, 1, 1, 2, 3, 3, 3, 4, 5)
QUESTIONS = (6, 7, 8, 9, 10, 11, 12, 13, 13, 14, 15, 16, 17, 18, 19, 20, 21, 22, 25)
BACK_AND_AGAIN = (23, 23, 24)


def some_length(source):
    return source.choice([0, 1, 2, 1000, 1001, LARGEST] + [source.randrange(1, 12) for k in range(12)])


def some_number(source, there):
    """Mostly of one that's there, at times of the first that isn't or of none at all."""
    if source.random() < 0.05:
        return source.choice([there, there + 1, LARGEST])
    return source.randrange(max(there, 1))


def some_call(source, slow, number):
    v = some_number(source, len(slow.joined))
    w = some_number(source, len(slow.joined))
    i = some_number(source, len(slow.voters))
    j = some_number(source, len(slow.voters))
    if number == 10:
        places = [some_number(source, len(slow.joined)) for k in range(5)]
        return [10, source.choice([0, 1, 2, 3, 4, 5, 5, 6]), 5] + places
    behind = {0: [], 1: [v, some_length(source)], 2: [v, some_length(source)], 3: [v], 4: [i, v], 5: [i],
              6: [], 7: [v, w], 8: [], 9: [v], 11: [i, v], 12: [i], 13: [i, j, v, w], 14: [i], 15: [v],
              16: [v], 17: [i], 18: [v], 19: [v], 20: [i], 21: [v], 22: [], 23: [], 24: [], 25: []}
    return [number] + behind[number]


def some_numbers_of_calls(source, share_of_changes):
    if source.random() < 0.004:
        return [0]
    if source.random() < 0.05:
        # Several behind one another, so that at times all that can be is taken back, or done again.
        by_turns = source.choices(BACK_AND_AGAIN, k=source.randrange(1, 5))
        return by_turns + [source.choice((23, 24))] * source.randrange(25) + [25]
    return [source.choice(CHANGES if source.random() < share_of_changes else QUESTIONS)]


def some_line(source, count, share_of_changes):
    slow = Slow()
    calls = [[0]]
    expected = [[0]]
    while len(calls) < count:
        for number in some_numbers_of_calls(source, share_of_changes):
            calls.append(some_call(source, slow, number))
            expected.append(slow.answer(calls[-1]))
    return calls, expected


class HeldAgainst(unittest.TestCase):
    def test_lines_of_all_calls(self):
        source = random.Random(20261116)
        seen = {}
        states = []
        for k in range(60):
            calls, expected = some_line(source, 200, 0.2 + 0.01 * k)
            self.assertEqual(apart(answers(flat(calls))), expected)
            for call, answer in zip(calls, expected):
                seen.setdefault(call[0], set()).add(min(answer[0], 0))
            states.extend(answer for call, answer in zip(calls, expected) if call == [25])
        # That the lines reach what they are for: each call, answered and refused in each of its ways.
        self.assertEqual(seen, {0: {0}, 1: {0, -2, -22, -28}, 2: {0, -2, -22, -33}, 3: {0, -2, -28}, 4: {0, -2},
                                5: {0, -2}, 6: {0, -6}, 7: {0, -2}, 8: {0}, 9: {0, -2}, 10: {0, -2, -22},
                                11: {0, -2}, 12: {0, -2}, 13: {0, -2, -22}, 14: {0, -2}, 15: {0, -2}, 16: {0, -2},
                                17: {0, -2}, 18: {0, -2}, 19: {0, -2}, 20: {0, -2}, 21: {0, -2}, 22: {0},
                                23: {0, -2}, 24: {0, -2}, 25: {0}})
        self.assertEqual({max(answer[k] for answer in states) for k in (1, 2)}, {20})


if __name__ == "__main__":
    unittest.main()
