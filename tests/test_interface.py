"""The interface: how calls and answers stand in the lists, and that nothing is changed or kept."""

import unittest

from roadvotes.roads import answers
from tests.examples import FORK_OF_THREE, FULL_OF_BOTH
from tests.lines import LARGEST, apart, everything, flat, row, start, unbeaten, village, vote


class Form(unittest.TestCase):
    def test_each_answer_has_its_count_before_it(self):
        self.assertEqual(answers([0]), [1, 0])
        self.assertEqual(answers([0, 1, 0, 5]), [1, 0, 1, 1])
        self.assertEqual(answers([0, 1, 0, 5, 2, 1, 7]), [1, 0, 1, 1, 1, 5])
        self.assertEqual(answers([0, 3, 0]), [1, 0, 1, 0])
        self.assertEqual(answers([0, 3, 0, 4, 0, 0]), [1, 0, 1, 0, 1, 0])
        self.assertEqual(answers([0, 3, 0, 5, 0]), [1, 0, 1, 0, 1, 0])
        self.assertEqual(answers([0, 3, 0, 6]), [1, 0, 1, 0, 2, 0, 0])
        self.assertEqual(answers([0, 7, 0, 0]), [1, 0, 2, 0, 0])
        self.assertEqual(answers([0, 8]), [1, 0, 2, 1, 1])
        self.assertEqual(answers([0, 9, 0]), [1, 0, 2, 0, 0])
        self.assertEqual(answers([0, 10, 1, 5, 0, 9, 9, 9, 9]), [1, 0, 1, 0])
        self.assertEqual(answers([0, 3, 0, 11, 0, 0]), [1, 0, 1, 0, 2, 0, 0])
        self.assertEqual(answers([0, 3, 0, 12, 0]), [1, 0, 1, 0, 2, 0, 0])
        self.assertEqual(answers([0, 3, 0, 3, 0, 13, 0, 1, 0, 0]), [1, 0, 1, 0, 1, 1, 3, 0, 0, 0])
        self.assertEqual(answers([0, 3, 0, 14, 0]), [1, 0, 1, 0, 2, 1, 1])
        self.assertEqual(answers([0, 15, 0]), [1, 0, 1, 0])
        self.assertEqual(answers([0, 16, 0]), [1, 0, 1, 0])
        self.assertEqual(answers([0, 3, 0, 17, 0]), [1, 0, 1, 0, 1, 0])
        self.assertEqual(answers([0, 18, 0]), [1, 0, 1, 0])
        self.assertEqual(answers([0, 19, 0]), [1, 0, 2, 0, 0])
        self.assertEqual(answers([0, 3, 0, 20, 0]), [1, 0, 1, 0, 1, 0])
        self.assertEqual(answers([0, 21, 0]), [1, 0, 2, 0, 0])
        self.assertEqual(answers([0, 22]), [1, 0, 2, 0, 0])
        self.assertEqual(answers([0, 3, 0, 23]), [1, 0, 1, 0, 1, 0])
        self.assertEqual(answers([0, 3, 0, 23, 24]), [1, 0, 1, 0, 1, 0, 1, 0])
        self.assertEqual(answers([0, 25]), [1, 0, 3, 1, 0, 0])

    def test_a_refusal_is_one_number_alone(self):
        self.assertEqual(answers([0, 1, 1, 5]), [1, 0, 1, -2])
        self.assertEqual(answers([0, 2, 0, 5]), [1, 0, 1, -33])
        self.assertEqual(answers([0, 3, 1]), [1, 0, 1, -2])
        self.assertEqual(answers([0, 4, 0, 0]), [1, 0, 1, -2])
        self.assertEqual(answers([0, 5, 0]), [1, 0, 1, -2])
        self.assertEqual(answers([0, 6]), [1, 0, 1, -6])
        self.assertEqual(answers([0, 7, 0, 1]), [1, 0, 1, -2])
        self.assertEqual(answers([0, 9, 1]), [1, 0, 1, -2])
        self.assertEqual(answers([0, 10, 6, 5, 0, 0, 0, 0, 0]), [1, 0, 1, -22])
        self.assertEqual(answers([0, 11, 0, 0]), [1, 0, 1, -2])
        self.assertEqual(answers([0, 12, 0]), [1, 0, 1, -2])
        self.assertEqual(answers([0, 13, 0, 1, 0, 0]), [1, 0, 1, -2])
        self.assertEqual(answers([0, 3, 0, 13, 0, 0, 0, 0]), [1, 0, 1, 0, 1, -22])
        self.assertEqual(answers([0, 14, 0]), [1, 0, 1, -2])
        self.assertEqual(answers([0, 15, 1]), [1, 0, 1, -2])
        self.assertEqual(answers([0, 16, 1]), [1, 0, 1, -2])
        self.assertEqual(answers([0, 17, 0]), [1, 0, 1, -2])
        self.assertEqual(answers([0, 18, 1]), [1, 0, 1, -2])
        self.assertEqual(answers([0, 19, 1]), [1, 0, 1, -2])
        self.assertEqual(answers([0, 20, 0]), [1, 0, 1, -2])
        self.assertEqual(answers([0, 21, 1]), [1, 0, 1, -2])
        self.assertEqual(answers([0, 23]), [1, 0, 1, -2])
        self.assertEqual(answers([0, 24]), [1, 0, 1, -2])

    def test_all_calls_one_behind_another(self):
        calls = [0, 1, 0, 5, 1, 1, 3, 2, 2, 4, 3, 2, 3, 0, 3, 2, 4, 1, 1, 6, 7, 1, 0, 8, 9, 2,
                 10, 3, 5, 0, 2, 1, 77, 88, 11, 1, 0, 12, 0, 5, 0, 6, 0, 8]
        self.assertEqual(answers(calls), [1, 0, 1, 1, 1, 2, 1, 3, 1, 0, 1, 1, 1, 2, 1, 0, 2, 2, 4, 2, 3, 0, 2, 1, 4, 2, 0, 0,
                                          1, 2, 2, 2, 4, 2, 0, 0, 1, 2, 2, 1, 4, 1, 0, 2, 1, 1])
        # Villages 0 -5- 1 -3- 2, and voters 0, 1, 2 tell 2, 0, 2.
        calls = [0, 1, 0, 5, 1, 1, 3, 3, 2, 3, 0, 3, 2, 13, 1, 0, 1, 1, 14, 0, 15, 0, 16, 0, 17, 1, 18, 1, 19, 2,
                 20, 1, 21, 2, 22, 23, 24, 25]
        self.assertEqual(answers(calls), [1, 0, 1, 1, 1, 2, 1, 0, 1, 1, 1, 2, 3, 1, 5, 3, 2, 3, 7, 1, 0, 1, 1, 1, 8,
                                          1, 11, 2, 2, 5, 1, 0, 2, 1, 3, 2, 3, 8, 1, 4, 1, 0, 3, 3, 5, 0])

    def test_whole_numbers_in_a_list(self):
        answered = answers(flat([start()] + FORK_OF_THREE + everything(5, 3) + [row(2, 0, 1)]))
        self.assertEqual({type(number) for number in answered}, {int})
        self.assertIs(type(answered), list)

    def test_the_largest_numbers(self):
        calls = [[1, LARGEST, LARGEST], [2, LARGEST, LARGEST], [3, LARGEST], [4, LARGEST, LARGEST], [5, LARGEST],
                 [7, LARGEST, LARGEST], [9, LARGEST], [10, LARGEST, 5] + [LARGEST] * 5,
                 [10, 1, 5] + [LARGEST] * 5, [11, LARGEST, LARGEST], [12, LARGEST]]
        self.assertEqual(apart(answers(flat([start()] + calls))),
                         [[0], [-2], [-2], [-2], [-2], [-2], [-2], [-2], [-22], [-2], [-2], [-2]])
        calls = [[13] + [LARGEST] * 4] + [[number, LARGEST] for number in range(14, 22)]
        self.assertEqual(apart(answers(flat([start()] + calls))), [[0]] + [[-2]] * 9)


class Long(unittest.TestCase):
    def test_a_thousand_calls(self):
        calls = [start()] + FULL_OF_BOTH + [row(5, 11, 10, 9, 8, 7)] * 400 + [unbeaten()] * 300
        calls = calls + [[12, 10]] * (1000 - len(calls))
        answered = apart(answers(flat(calls)))
        self.assertEqual(len(answered), 1000)
        behind = answered[1 + len(FULL_OF_BOTH):]
        self.assertEqual(behind, [[7]] * 400 + [[1, 2]] * 300 + [[14, 14]] * (len(behind) - 700))

    def test_a_thousand_starts(self):
        self.assertEqual(answers([0] * 1000), [1, 0] * 1000)

    def test_a_thousand_changes(self):
        calls = [start(), village(0, 1000), vote(0)] + [[4, 0, 1], [4, 0, 0]] * 498 + [[6]]
        self.assertEqual(len(calls), 1000)
        self.assertEqual(apart(answers(flat(calls))), [[0], [1], [0]] + [[0], [1]] * 498 + [[0, 0]])


    def test_a_thousand_of_each_call(self):
        calls = [[6], [7, 11, 0], [8], [9, 11], row(5, 11, 10, 9, 8, 7), [11, 10, 11], [12, 10], [13, 9, 10, 11, 11],
                 [14, 10], [15, 11], [16, 11], [17, 10], [18, 11], [19, 10], [20, 10], [21, 11], [22], [25]]
        for call in calls:
            behind = [call] * (999 - len(FULL_OF_BOTH))
            answered = apart(answers(flat([start()] + FULL_OF_BOTH + behind)))
            self.assertEqual(len(answered), 1000)
            self.assertEqual(answered[1 + len(FULL_OF_BOTH):], [answered[-1]] * len(behind))
            self.assertGreaterEqual(answered[-1][0], 0)

    def test_a_thousand_times_back_and_again(self):
        calls = [start()] + FULL_OF_BOTH + [[23], [24]] * 488 + [[25]]
        self.assertEqual(len(calls), 1000)
        self.assertEqual(apart(answers(flat(calls)))[23:], [[19], [0]] * 488 + [[12, 20, 0]])


class Untouched(unittest.TestCase):
    def setUp(self):
        self.calls = flat([start()] + FULL_OF_BOTH + [[4, 3, 9], [2, 4, 1000], [5, 1], row(5, 0, 1, 2, 3, 4)]
                          + everything(12, 10) + [[23], [23], [24], [25]]
                          + [start(), village(0, 3), vote(1), [6], [23], [25], [24]])

    def test_what_is_handed_in_stays_as_it_was(self):
        handed_in = list(self.calls)
        answers(handed_in)
        self.assertEqual(handed_in, self.calls)

    def test_it_is_not_changed_for_a_while_either(self):
        class Watched(list):
            def refuse(self, *args):
                raise AssertionError("what is handed in was changed")

            append = extend = insert = pop = remove = clear = sort = reverse = refuse
            __setitem__ = __delitem__ = __iadd__ = __imul__ = refuse

        self.assertEqual(answers(Watched(self.calls)), answers(self.calls))

    def test_a_second_time_it_answers_the_same(self):
        first = answers(self.calls)
        answers(flat([start(), village(0, 7), vote(1), vote(1), [23]]))
        self.assertEqual(answers(self.calls), first)

    def test_what_was_done_another_time_is_not_there_to_take_back(self):
        answers(flat([start(), village(0, 7), vote(1), vote(1), [23]]))
        self.assertEqual(answers([0, 25, 23, 24]), [1, 0, 3, 1, 0, 0, 1, -2, 1, -2])

    def test_what_was_answered_is_not_changed_later(self):
        first = answers(self.calls)
        kept = list(first)
        first.append(1)
        self.assertEqual(answers(self.calls), kept)


if __name__ == "__main__":
    unittest.main()
