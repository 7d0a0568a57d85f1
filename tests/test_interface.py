"""The interface: how calls and answers stand in the lists, and that nothing is changed or kept."""

import unittest

from roadvotes.roads import answers
from tests.examples import FORK_OF_THREE, FULL_OF_BOTH
from tests.lines import LARGEST, apart, everything, flat, row, start, unbeaten, village, vote


class Form(unittest.TestCase):
    def test_each_answer_has_its_count_before_it(self):
        self.assertEqual(answers([0]), [1, 0])
        self.assertEqual(answers([0, 1, 0, 5]), [1, 0, 1, 1])
        self.assertEqual(answers([0, 1, 0, 5, 2, 1, 7]), [1, 0, 1, 1, 1, 5])
        self.assertEqual(answers([0, 3, 0]), [1, 0, 1, 0])
        self.assertEqual(answers([0, 3, 0, 4, 0, 0]), [1, 0, 1, 0, 1, 0])
        self.assertEqual(answers([0, 3, 0, 5, 0]), [1, 0, 1, 0, 1, 0])
        self.assertEqual(answers([0, 3, 0, 6]), [1, 0, 1, 0, 2, 0, 0])
        self.assertEqual(answers([0, 7, 0, 0]), [1, 0, 2, 0, 0])
        self.assertEqual(answers([0, 8]), [1, 0, 2, 1, 1])
        self.assertEqual(answers([0, 9, 0]), [1, 0, 2, 0, 0])
        self.assertEqual(answers([0, 10, 1, 5, 0, 9, 9, 9, 9]), [1, 0, 1, 0])
        self.assertEqual(answers([0, 3, 0, 11, 0, 0]), [1, 0, 1, 0, 2, 0, 0])
        self.assertEqual(answers([0, 3, 0, 12, 0]), [1, 0, 1, 0, 2, 0, 0])

    def test_a_refusal_is_one_number_alone(self):
        self.assertEqual(answers([0, 1, 1, 5]), [1, 0, 1, -2])
        self.assertEqual(answers([0, 2, 0, 5]), [1, 0, 1, -33])
        self.assertEqual(answers([0, 3, 1]), [1, 0, 1, -2])
        self.assertEqual(answers([0, 4, 0, 0]), [1, 0, 1, -2])
        self.assertEqual(answers([0, 5, 0]), [1, 0, 1, -2])
        self.assertEqual(answers([0, 6]), [1, 0, 1, -6])
        self.assertEqual(answers([0, 7, 0, 1]), [1, 0, 1, -2])
        self.assertEqual(answers([0, 9, 1]), [1, 0, 1, -2])
        self.assertEqual(answers([0, 10, 6, 5, 0, 0, 0, 0, 0]), [1, 0, 1, -22])
        self.assertEqual(answers([0, 11, 0, 0]), [1, 0, 1, -2])
        self.assertEqual(answers([0, 12, 0]), [1, 0, 1, -2])

    def test_all_calls_one_behind_another(self):
        calls = [0, 1, 0, 5, 1, 1, 3, 2, 2, 4, 3, 2, 3, 0, 3, 2, 4, 1, 1, 6, 7, 1, 0, 8, 9, 2,
                 10, 3, 5, 0, 2, 1, 77, 88, 11, 1, 0, 12, 0, 5, 0, 6, 0, 8]
        self.assertEqual(answers(calls), [1, 0, 1, 1, 1, 2, 1, 3, 1, 0, 1, 1, 1, 2, 1, 0, 2, 2, 4, 2, 3, 0, 2, 1, 4, 2, 0, 0,
                                          1, 2, 2, 2, 4, 2, 0, 0, 1, 2, 2, 1, 4, 1, 0, 2, 1, 1])

    def test_whole_numbers_in_a_list(self):
        answered = answers(flat([start()] + FORK_OF_THREE + everything(5, 3) + [row(2, 0, 1)]))
        self.assertEqual({type(number) for number in answered}, {int})
        self.assertIs(type(answered), list)

    def test_the_largest_numbers(self):
        calls = [[1, LARGEST, LARGEST], [2, LARGEST, LARGEST], [3, LARGEST], [4, LARGEST, LARGEST], [5, LARGEST],
                 [7, LARGEST, LARGEST], [9, LARGEST], [10, LARGEST, 5] + [LARGEST] * 5,
                 [10, 1, 5] + [LARGEST] * 5, [11, LARGEST, LARGEST], [12, LARGEST]]
        self.assertEqual(apart(answers(flat([start()] + calls))),
                         [[0], [-2], [-2], [-2], [-2], [-2], [-2], [-2], [-22], [-2], [-2], [-2]])


class Long(unittest.TestCase):
    def test_a_thousand_calls(self):
        calls = [start()] + FULL_OF_BOTH + [row(5, 11, 10, 9, 8, 7)] * 400 + [unbeaten()] * 300
        calls = calls + [[12, 10]] * (1000 - len(calls))
        answered = apart(answers(flat(calls)))
        self.assertEqual(len(answered), 1000)
        behind = answered[1 + len(FULL_OF_BOTH):]
        self.assertEqual(behind, [[7]] * 400 + [[1, 2]] * 300 + [[14, 14]] * (len(behind) - 700))

    def test_a_thousand_starts(self):
        self.assertEqual(answers([0] * 1000), [1, 0] * 1000)

    def test_a_thousand_changes(self):
        calls = [start(), village(0, 1000), vote(0)] + [[4, 0, 1], [4, 0, 0]] * 498 + [[6]]
        self.assertEqual(len(calls), 1000)
        self.assertEqual(apart(answers(flat(calls))), [[0], [1], [0]] + [[0], [1]] * 498 + [[0, 0]])


class Untouched(unittest.TestCase):
    def setUp(self):
        self.calls = flat([start()] + FULL_OF_BOTH + [[4, 3, 9], [2, 4, 1000], [5, 1], row(5, 0, 1, 2, 3, 4)]
                          + everything(12, 10) + [start(), village(0, 3), vote(1), [6]])

    def test_what_is_handed_in_stays_as_it_was(self):
        handed_in = list(self.calls)
        answers(handed_in)
        self.assertEqual(handed_in, self.calls)

    def test_it_is_not_changed_for_a_while_either(self):
        class Watched(list):
            def refuse(self, *args):
                raise AssertionError("what is handed in was changed")

            append = extend = insert = pop = remove = clear = sort = reverse = refuse
            __setitem__ = __delitem__ = __iadd__ = __imul__ = refuse

        self.assertEqual(answers(Watched(self.calls)), answers(self.calls))

    def test_a_second_time_it_answers_the_same(self):
        first = answers(self.calls)
        answers(flat([start(), village(0, 7), vote(1), vote(1)]))
        self.assertEqual(answers(self.calls), first)

    def test_what_was_answered_is_not_changed_later(self):
        first = answers(self.calls)
        kept = list(first)
        first.append(1)
        self.assertEqual(answers(self.calls), kept)


if __name__ == "__main__":
    unittest.main()
