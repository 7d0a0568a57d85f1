"""Point 4, as far as it has landed: vo_lie, vo_best."""

import unittest

from tests.examples import FORK, FORK_OF_THREE, FORK_OF_TWO, FULL_OF_BOTH
from tests.lines import LARGEST, ask, ask_behind, away, best, chosen, lie, move, road, vote


class Lie(unittest.TestCase):
    def test_what_were_chosen_and_how_far_it_is_from_their_village(self):
        self.assertEqual(ask_behind(FORK_OF_THREE, *[lie(0, v) for v in range(5)]),
                         [[0, 8], [1, 3], [1, 3], [3, 7], [4, 10]])
        self.assertEqual(ask_behind(FORK_OF_THREE, *[lie(2, v) for v in range(5)]),
                         [[1, 7], [1, 7], [2, 10], [3, 11], [1, 7]])

    def test_an_even_number_of_voters(self):
        self.assertEqual(ask_behind(FORK_OF_TWO, *[lie(0, v) for v in range(5)]),
                         [[0, 8], [0, 8], [0, 8], [0, 8], [4, 10]])
        self.assertEqual(ask_behind(FORK_OF_TWO, *[lie(1, v) for v in range(5)]),
                         [[0, 2], [1, 7], [2, 10], [1, 7], [0, 2]])

    def test_one_voter(self):
        self.assertEqual(ask_behind(FORK, vote(3), *[lie(0, v) for v in range(5)])[1:],
                         [[0, 9], [1, 4], [2, 7], [3, 0], [4, 11]])

    def test_nothing_is_told_in_earnest(self):
        self.assertEqual(ask_behind(FORK_OF_THREE, lie(0, 4), chosen(), lie(1, 4), chosen(), move(0, 0), move(1, 0)),
                         [[4, 10], [1, 14], [4, 11], [1, 14], [2], [3]])

    def test_what_changed_before_counts(self):
        self.assertEqual(ask_behind(FORK_OF_THREE, move(1, 4), lie(0, 4), road(4, 1000), lie(0, 4), away(2), lie(0, 1)),
                         [[3], [4, 10], [2], [4, 1008], [2], [0, 8]])

    def test_no_voter(self):
        self.assertEqual(ask(lie(0, 0)), [[-2]])
        self.assertEqual(ask_behind(FORK_OF_THREE, lie(3, 0), lie(LARGEST, 0)), [[-2], [-2]])

    def test_no_village(self):
        self.assertEqual(ask_behind(FORK_OF_THREE, lie(0, 5), lie(2, LARGEST), lie(3, 5)), [[-2]] * 3)

    def test_the_eleventh_voter_and_the_twelfth_village(self):
        self.assertEqual(ask_behind(FULL_OF_BOTH, lie(10, 11), lie(11, 0), lie(0, 12)), [[1, 14], [-2], [-2]])


class Best(unittest.TestCase):
    def test_how_far_at_the_least_and_how_far_as_it_is(self):
        self.assertEqual(ask_behind(FORK_OF_THREE, best(0), best(1), best(2)), [[3, 3], [4, 4], [7, 7]])

    def test_an_even_number_of_voters(self):
        self.assertEqual(ask_behind(FORK_OF_TWO, best(0), best(1)), [[8, 8], [2, 2]])

    def test_one_voter(self):
        for v in range(5):
            self.assertEqual(ask_behind(FORK, vote(v), best(0)), [[0], [0, 0]])

    def test_nothing_is_told_in_earnest(self):
        self.assertEqual(ask_behind(FORK_OF_THREE, best(0), chosen(), best(2), chosen(), move(0, 0), move(2, 0)),
                         [[3, 3], [1, 14], [7, 7], [1, 14], [2], [4]])

    def test_what_changed_before_counts(self):
        self.assertEqual(ask_behind(FORK_OF_THREE, road(2, 1000), best(0), move(1, 2), best(0), best(2)),
                         [[3], [1000, 1000], [3], [0, 0], [1007, 1007]])

    def test_no_voter(self):
        self.assertEqual(ask(best(0)), [[-2]])
        self.assertEqual(ask_behind(FORK_OF_THREE, best(3), best(LARGEST)), [[-2], [-2]])
        self.assertEqual(ask_behind(FULL_OF_BOTH, best(10), best(11)), [[14, 14], [-2]])


if __name__ == "__main__":
    unittest.main()
