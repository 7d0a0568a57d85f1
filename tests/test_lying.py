"""Point 4: vo_lie, vo_best, vo_both, vo_sways, vo_with, vo_nearer."""

import unittest

from tests.as_it_was import AsItWas
from tests.examples import FORK, FORK_OF_THREE, FORK_OF_TWO, FULL_OF_BOTH, FULL_OF_VILLAGES
from tests.lines import (LARGEST, ask, ask_behind, away, best, both, chosen, lie, look, move, nearer, rather,
                         road, sums, sways, village, vote, with_one_more)


class Lie(unittest.TestCase):
    def test_what_were_chosen_and_how_far_it_is_from_their_village(self):
        self.assertEqual(ask_behind(FORK_OF_THREE, *[lie(0, v) for v in range(5)]),
                         [[0, 8], [1, 3], [1, 3], [3, 7], [4, 10]])
        self.assertEqual(ask_behind(FORK_OF_THREE, *[lie(2, v) for v in range(5)]),
                         [[1, 7], [1, 7], [2, 10], [3, 11], [1, 7]])

    def test_an_even_number_of_voters(self):
        self.assertEqual(ask_behind(FORK_OF_TWO, *[lie(0, v) for v in range(5)]),
                         [[0, 8], [0, 8], [0, 8], [0, 8], [4, 10]])
        self.assertEqual(ask_behind(FORK_OF_TWO, *[lie(1, v) for v in range(5)]),
                         [[0, 2], [1, 7], [2, 10], [1, 7], [0, 2]])

    def test_one_voter(self):
        self.assertEqual(ask_behind(FORK, vote(3), *[lie(0, v) for v in range(5)])[1:],
                         [[0, 9], [1, 4], [2, 7], [3, 0], [4, 11]])

    def test_nothing_is_told_in_earnest(self):
        self.assertEqual(ask_behind(FORK_OF_THREE, lie(0, 4), chosen(), lie(1, 4), chosen(), move(0, 0), move(1, 0)),
                         [[4, 10], [1, 14], [4, 11], [1, 14], [2], [3]])

    def test_what_changed_before_counts(self):
        self.assertEqual(ask_behind(FORK_OF_THREE, move(1, 4), lie(0, 4), road(4, 1000), lie(0, 4), away(2), lie(0, 1)),
                         [[3], [4, 10], [2], [4, 1008], [2], [0, 8]])

    def test_no_voter(self):
        self.assertEqual(ask(lie(0, 0)), [[-2]])
        self.assertEqual(ask_behind(FORK_OF_THREE, lie(3, 0), lie(LARGEST, 0)), [[-2], [-2]])

    def test_no_village(self):
        self.assertEqual(ask_behind(FORK_OF_THREE, lie(0, 5), lie(2, LARGEST), lie(3, 5)), [[-2]] * 3)

    def test_the_eleventh_voter_and_the_twelfth_village(self):
        self.assertEqual(ask_behind(FULL_OF_BOTH, lie(10, 11), lie(11, 0), lie(0, 12)), [[1, 14], [-2], [-2]])


class Best(unittest.TestCase):
    def test_how_far_at_the_least_and_how_far_as_it_is(self):
        self.assertEqual(ask_behind(FORK_OF_THREE, best(0), best(1), best(2)), [[3, 3], [4, 4], [7, 7]])

    def test_an_even_number_of_voters(self):
        self.assertEqual(ask_behind(FORK_OF_TWO, best(0), best(1)), [[8, 8], [2, 2]])

    def test_one_voter(self):
        for v in range(5):
            self.assertEqual(ask_behind(FORK, vote(v), best(0)), [[0], [0, 0]])

    def test_nothing_is_told_in_earnest(self):
        self.assertEqual(ask_behind(FORK_OF_THREE, best(0), chosen(), best(2), chosen(), move(0, 0), move(2, 0)),
                         [[3, 3], [1, 14], [7, 7], [1, 14], [2], [4]])

    def test_what_changed_before_counts(self):
        self.assertEqual(ask_behind(FORK_OF_THREE, road(2, 1000), best(0), move(1, 2), best(0), best(2)),
                         [[3], [1000, 1000], [3], [0, 0], [1007, 1007]])

    def test_no_voter(self):
        self.assertEqual(ask(best(0)), [[-2]])
        self.assertEqual(ask_behind(FORK_OF_THREE, best(3), best(LARGEST)), [[-2], [-2]])
        self.assertEqual(ask_behind(FULL_OF_BOTH, best(10), best(11)), [[14, 14], [-2]])


class Both(AsItWas):
    def test_what_were_chosen_and_how_far_it_is_from_their_villages(self):
        answered = ask_behind(FORK_OF_THREE, both(0, 1, 3, 2), both(0, 1, 0, 0), both(0, 2, 3, 3), both(0, 2, 1, 0),
                              both(1, 2, 2, 0), both(1, 2, 0, 0))
        self.assertEqual(answered, [[1, 3, 4], [0, 8, 9], [3, 7, 11], [1, 3, 7], [2, 7, 10], [0, 9, 2]])

    def test_the_first_one_s_way_is_told_first(self):
        answered = ask_behind(FORK_OF_THREE, both(1, 0, 0, 0), both(2, 0, 3, 3), both(2, 0, 2, 4), both(2, 1, 0, 2))
        self.assertEqual(answered, [[0, 9, 8], [3, 11, 7], [1, 7, 3], [2, 10, 7]])

    def test_both_tell_their_own(self):
        self.assertEqual(ask_behind(FORK_OF_THREE, both(0, 1, 2, 3), both(0, 2, 2, 4)), [[1, 3, 4], [1, 3, 7]])
        self.assertEqual(ask_behind(FORK_OF_TWO, both(0, 1, 2, 4)), [[0, 8, 2]])

    def test_each_tells_what_is_asked_of_them(self):
        # The others are at 1 and 3: it matters who of them is left out.
        four = FORK + [vote(1), vote(1), vote(3), vote(3)]
        answered = ask_behind(four, both(0, 1, 3, 4), both(2, 3, 3, 4), both(0, 2, 4, 4), both(1, 3, 3, 3))
        self.assertEqual(answered, [[3, 4, 4], [1, 4, 4], [0, 5, 9], [3, 4, 0]])

    def test_an_even_number_of_voters(self):
        answered = ask_behind(FORK_OF_TWO, both(0, 1, 3, 3), both(0, 1, 1, 4), both(1, 0, 1, 2), both(0, 1, 4, 4))
        self.assertEqual(answered, [[3, 7, 11], [0, 8, 2], [1, 7, 3], [4, 10, 0]])

    def test_both_tell_the_same(self):
        self.assertEqual(ask_behind(FORK_OF_TWO, *[both(0, 1, v, v) for v in range(5)]),
                         [[0, 8, 2], [1, 3, 7], [2, 0, 10], [3, 7, 11], [4, 10, 0]])

    def test_nothing_is_told_in_earnest(self):
        self.assert_as_it_was(FORK_OF_THREE, 5, 3, both(0, 1, 0, 4), 4, 10, 11)
        self.assertEqual(ask_behind(FORK_OF_THREE, both(0, 2, 3, 3), look(0), look(2), chosen()),
                         [[3, 7, 11], [2], [4], [1, 14]])

    def test_what_changed_before_counts(self):
        self.assertEqual(ask_behind(FORK_OF_THREE, road(4, 1000), both(0, 2, 0, 0), away(1), both(0, 1, 4, 4)),
                         [[2], [0, 8, 1000], [2], [4, 1008, 0]])

    def test_no_voter(self):
        self.assert_as_it_was([], 1, 0, both(0, 1, 0, 0), -2)
        for i, j in ((3, 0), (0, 3), (3, 4), (LARGEST, 0), (0, LARGEST)):
            self.assert_as_it_was(FORK_OF_THREE, 5, 3, both(i, j, 0, 0), -2)

    def test_no_village(self):
        for v, w in ((5, 0), (0, 5), (5, 5), (LARGEST, 0), (0, LARGEST)):
            self.assert_as_it_was(FORK_OF_THREE, 5, 3, both(0, 1, v, w), -2)

    def test_one_is_the_other(self):
        for i in range(3):
            self.assert_as_it_was(FORK_OF_THREE, 5, 3, both(i, i, 0, 1), -22)
        self.assert_as_it_was(FORK + [vote(0)], 5, 1, both(0, 0, 2, 2), -22)

    def test_what_is_not_there_is_looked_at_first(self):
        self.assert_as_it_was([], 1, 0, both(0, 0, 0, 0), -2)
        self.assert_as_it_was(FORK_OF_THREE, 5, 3, both(3, 3, 0, 0), -2)
        self.assert_as_it_was(FORK_OF_THREE, 5, 3, both(LARGEST, LARGEST, 0, 0), -2)
        self.assert_as_it_was(FORK_OF_THREE, 5, 3, both(1, 1, 5, 0), -2)
        self.assert_as_it_was(FORK_OF_THREE, 5, 3, both(1, 1, 0, 5), -2)
        self.assert_as_it_was(FORK_OF_THREE, 5, 3, both(1, 1, LARGEST, LARGEST), -2)

    def test_the_eleventh_voter_and_the_twelfth_village(self):
        self.assertEqual(ask_behind(FULL_OF_BOTH, both(10, 9, 11, 11), both(9, 10, 11, 11), both(10, 11, 0, 0),
                                    both(11, 10, 0, 0), both(10, 9, 12, 0), both(10, 9, 0, 12)),
                         [[0, 15, 14], [0, 14, 15], [-2], [-2], [-2], [-2]])


class Sways(AsItWas):
    def test_the_places_that_might_be_chosen(self):
        self.assertEqual(ask_behind(FORK_OF_THREE, sways(0), sways(1), sways(2)), [[4, 27], [4, 23], [3, 14]])

    def test_an_even_number_of_voters(self):
        self.assertEqual(ask_behind(FORK_OF_TWO, sways(0), sways(1)), [[2, 17], [3, 7]])

    def test_one_voter_sways_all_there_is(self):
        self.assertEqual(ask(vote(0), sways(0)), [[0], [1, 1]])
        self.assertEqual(ask_behind(FORK, vote(3), sways(0)), [[0], [5, 31]])
        self.assertEqual(ask_behind(FULL_OF_VILLAGES, vote(3), sways(0)), [[0], [12, 4095]])

    def test_where_one_sways_nothing(self):
        five = FORK + [vote(3), vote(3), vote(3), vote(3), vote(0)]
        self.assertEqual(ask_behind(five, sways(0), sways(4)), [[1, 8], [1, 8]])

    def test_nothing_is_told_in_earnest(self):
        self.assert_as_it_was(FORK_OF_THREE, 5, 3, sways(0), 4, 27)

    def test_what_changed_before_counts(self):
        self.assertEqual(ask_behind(FORK_OF_THREE, move(1, 4), sways(0), village(2, 1), away(0), away(0), sways(0))[1::2],
                         [[1, 16], [2], [6, 63]])

    def test_no_voter(self):
        self.assert_as_it_was([], 1, 0, sways(0), -2)
        self.assert_as_it_was(FORK_OF_THREE, 5, 3, sways(3), -2)
        self.assert_as_it_was(FORK_OF_THREE, 5, 3, sways(LARGEST), -2)
        self.assert_as_it_was(FULL_OF_BOTH, 12, 11, sways(11), -2)


class WithOneMore(AsItWas):
    def test_an_odd_number_of_voters(self):
        self.assertEqual(ask_behind(FORK_OF_THREE, *[with_one_more(v) for v in range(5)]), [[0], [1], [1], [1], [0]])

    def test_an_even_number_of_voters(self):
        self.assertEqual(ask_behind(FORK_OF_TWO, *[with_one_more(v) for v in range(5)]), [[0], [1], [2], [1], [4]])

    def test_no_voters(self):
        self.assertEqual(ask(with_one_more(0)), [[0]])
        self.assertEqual(ask_behind(FORK, *[with_one_more(v) for v in range(5)]), [[v] for v in range(5)])

    def test_no_voter_is_there_more(self):
        self.assert_as_it_was(FORK_OF_TWO, 5, 2, with_one_more(2), 2)
        self.assertEqual(ask_behind(FORK, with_one_more(3), sums(), chosen(), vote(2)), [[3], [0, 14], [-6], [0]])

    def test_with_11_voters_it_answers_still(self):
        eleven = FULL_OF_VILLAGES + [vote(11)] * 6 + [vote(1)] * 5
        self.assertEqual(ask_behind(eleven, vote(11), with_one_more(11), with_one_more(1), with_one_more(0), sums()),
                         [[-28], [11], [0], [0], [11, 66]])
        self.assert_as_it_was(FULL_OF_BOTH, 12, 11, with_one_more(11), 1)

    def test_no_village(self):
        self.assert_as_it_was([], 1, 0, with_one_more(1), -2)
        self.assert_as_it_was(FORK_OF_THREE, 5, 3, with_one_more(5), -2)
        self.assert_as_it_was(FORK_OF_THREE, 5, 3, with_one_more(LARGEST), -2)
        self.assert_as_it_was(FULL_OF_BOTH, 12, 11, with_one_more(12), -2)


class Nearer(AsItWas):
    def test_how_many_would_rather_have_it_than_what_is_chosen(self):
        self.assertEqual(ask_behind(FORK_OF_THREE, *[nearer(v) for v in range(5)]), [[1], [0], [1], [1], [1]])

    def test_an_even_number_of_voters(self):
        self.assertEqual(ask_behind(FORK_OF_TWO, *[nearer(v) for v in range(5)]), [[0], [1], [1], [1], [1]])
        self.assertEqual(ask_behind(FORK_OF_TWO, vote(2), vote(4), nearer(1), nearer(4))[2:], [[2], [2]])

    def test_who_has_it_as_far_to_both_does_not_count(self):
        # Village 0 is chosen, and the one at village 1 has it as far to 0 as to 2.
        line = [village(0, 4), village(1, 4), vote(0), vote(0), vote(1)]
        self.assertEqual(ask_behind(line, nearer(2), road(2, 3), nearer(2), road(2, 5), nearer(2))[::2], [[0], [1], [0]])

    def test_no_voters(self):
        self.assertEqual(ask(nearer(0)), [[0]])
        self.assertEqual(ask_behind(FORK, *[nearer(v) for v in range(5)]), [[0]] * 5)

    def test_many(self):
        # Five of eleven would rather have the one end, but six live at the other.
        line = [village(v, 1000) for v in range(11)] + [vote(0)] * 6 + [vote(11)] * 5
        self.assertEqual(ask_behind(line, nearer(11), rather(11, 0), nearer(1), nearer(0)), [[5], [5, 6], [5], [0]])

    def test_nothing_changes(self):
        self.assert_as_it_was(FORK_OF_THREE, 5, 3, nearer(4), 1)

    def test_no_village(self):
        self.assert_as_it_was([], 1, 0, nearer(1), -2)
        self.assert_as_it_was(FORK_OF_THREE, 5, 3, nearer(5), -2)
        self.assert_as_it_was(FORK_OF_THREE, 5, 3, nearer(LARGEST), -2)
        self.assert_as_it_was(FULL_OF_BOTH, 12, 11, nearer(12), -2)


if __name__ == "__main__":
    unittest.main()
