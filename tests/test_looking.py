"""Point 5: vo_far, vo_total, vo_who, vo_look, vo_place, vo_sums."""

import unittest

from tests.as_it_was import AsItWas
from tests.examples import FORK, FORK_FAR, FORK_OF_THREE, FORK_OF_TWO, FULL_OF_BOTH, FULL_OF_VILLAGES
from tests.lines import (LARGEST, ask, ask_behind, away, far, look, move, place, road, start, sums, total, village, vote,
                         who)

LINE_OF_12 = [village(v, 1000) for v in range(11)]


class Far(AsItWas):
    def test_how_far_what_is_chosen_is_from_their_village(self):
        self.assertEqual(ask_behind(FORK_OF_THREE, far(0), far(1), far(2)), [[3], [4], [7]])

    def test_an_even_number_of_voters(self):
        self.assertEqual(ask_behind(FORK_OF_TWO, far(0), far(1)), [[8], [2]])

    def test_one_voter(self):
        self.assertEqual(ask_behind(FORK, vote(3), far(0), far(1)), [[0], [0], [-2]])

    def test_what_changed_before_counts(self):
        self.assertEqual(ask_behind(FORK_OF_THREE, road(2, 1000), far(0), move(1, 2), far(2), away(0), far(0), far(1)),
                         [[3], [1000], [3], [1007], [2], [1005], [2]])

    def test_as_far_as_can_be(self):
        self.assertEqual(ask_behind(LINE_OF_12, vote(0), vote(11), vote(11), far(0), far(2))[3:], [[11000], [0]])

    def test_no_voter(self):
        self.assert_as_it_was([], 1, 0, far(0), -2)
        self.assert_as_it_was(FORK, 5, 0, far(0), -2)
        self.assert_as_it_was(FORK_OF_THREE, 5, 3, far(3), -2)
        self.assert_as_it_was(FORK_OF_THREE, 5, 3, far(LARGEST), -2)
        self.assert_as_it_was(FULL_OF_BOTH, 12, 11, far(11), -2)

    def test_the_eleventh_voter(self):
        self.assertEqual(ask_behind(FULL_OF_BOTH, far(10), far(0)), [[14], [1]])


class Total(AsItWas):
    def test_how_far_all_voters_are_from_it(self):
        self.assertEqual(ask_behind(FORK_OF_THREE, *[total(v) for v in range(5)]), [[19], [14], [17], [18], [21]])

    def test_the_vote_of_village_0_is_no_voter(self):
        self.assertEqual(ask_behind(FORK_OF_TWO, *[total(v) for v in range(5)]), [[10], [10], [10], [18], [10]])

    def test_one_voter_is_as_far_as_their_village(self):
        for home in range(5):
            self.assertEqual(ask_behind(FORK, vote(home), *[total(v) for v in range(5)])[1:],
                             [[length] for length in FORK_FAR[home]])

    def test_several_who_tell_one_village(self):
        self.assertEqual(ask_behind(FORK, vote(2), vote(2), vote(2), total(4), total(2))[3:], [[30], [0]])

    def test_no_voters(self):
        self.assertEqual(ask(total(0)), [[0]])
        self.assertEqual(ask_behind(FORK, *[total(v) for v in range(5)]), [[0]] * 5)

    def test_as_far_as_can_be(self):
        self.assertEqual(ask_behind(LINE_OF_12, *[vote(11)] * 11, total(0))[-1], [121000])

    def test_no_village(self):
        self.assert_as_it_was([], 1, 0, total(1), -2)
        self.assert_as_it_was(FORK_OF_THREE, 5, 3, total(5), -2)
        self.assert_as_it_was(FORK_OF_THREE, 5, 3, total(LARGEST), -2)
        self.assert_as_it_was(FULL_OF_BOTH, 12, 11, total(12), -2)


class Who(AsItWas):
    def test_the_voters_that_tell_it(self):
        self.assertEqual(ask_behind(FORK_OF_THREE, *[who(v) for v in range(5)]), [[0, 0], [0, 0], [1, 1], [1, 2], [1, 4]])

    def test_several(self):
        self.assertEqual(ask_behind(FORK_OF_THREE, vote(2), vote(2), who(2), who(3))[2:], [[3, 25], [1, 2]])

    def test_the_vote_of_village_0_is_no_voter(self):
        self.assertEqual(ask_behind(FORK_OF_TWO, who(0), who(2), who(4)), [[0, 0], [1, 1], [1, 2]])

    def test_no_voters(self):
        self.assertEqual(ask(who(0)), [[0, 0]])
        self.assertEqual(ask_behind(FORK, who(0), who(4)), [[0, 0], [0, 0]])

    def test_11_voters(self):
        self.assertEqual(ask_behind([vote(0)] * 11, who(0)), [[11, 2047]])
        self.assertEqual(ask_behind(FULL_OF_BOTH, who(10), who(11)), [[1, 1024], [0, 0]])

    def test_what_changed_before_counts(self):
        self.assertEqual(ask_behind(FORK_OF_THREE, move(2, 2), who(2), who(4), away(0), who(2), who(3))[1:],
                         [[2, 5], [0, 0], [2], [1, 2], [1, 1]])

    def test_no_village(self):
        self.assert_as_it_was([], 1, 0, who(1), -2)
        self.assert_as_it_was(FORK_OF_THREE, 5, 3, who(5), -2)
        self.assert_as_it_was(FORK_OF_THREE, 5, 3, who(LARGEST), -2)
        self.assert_as_it_was(FULL_OF_BOTH, 12, 11, who(12), -2)


class Look(AsItWas):
    def test_which_village_they_tell(self):
        self.assertEqual(ask_behind(FORK_OF_THREE, look(0), look(1), look(2)), [[2], [3], [4]])

    def test_what_changed_before_counts(self):
        self.assertEqual(ask_behind(FORK_OF_THREE, move(0, 1), look(0), away(0), look(0), look(1), look(2)),
                         [[2], [1], [2], [3], [4], [-2]])

    def test_the_eleventh_voter_and_the_twelfth_village(self):
        self.assertEqual(ask_behind(FULL_OF_BOTH, look(10), move(10, 11), look(10)), [[10], [10], [11]])

    def test_no_voter(self):
        self.assert_as_it_was([], 1, 0, look(0), -2)
        self.assert_as_it_was(FORK_OF_THREE, 5, 3, look(3), -2)
        self.assert_as_it_was(FORK_OF_THREE, 5, 3, look(LARGEST), -2)
        self.assert_as_it_was(FULL_OF_BOTH, 12, 11, look(11), -2)


class Place(AsItWas):
    def test_its_up_and_how_long_its_road_is(self):
        self.assertEqual(ask_behind(FORK, place(1), place(2), place(3), place(4)), [[0, 5], [1, 3], [1, 4], [0, 2]])

    def test_village_0(self):
        self.assertEqual(ask(place(0)), [[0, 0]])
        self.assertEqual(ask_behind(FORK_OF_THREE, road(0, 9), place(0)), [[-33], [0, 0]])

    def test_what_changed_before_counts(self):
        self.assertEqual(ask_behind(FORK, road(2, 1000), place(2), place(1), place(3)), [[3], [1, 1000], [0, 5], [1, 4]])

    def test_12_villages(self):
        self.assertEqual(ask_behind(FULL_OF_VILLAGES, *[place(v) for v in range(1, 12)]),
                         [[(v - 1) // 2, v] for v in range(1, 12)])

    def test_no_village(self):
        self.assert_as_it_was([], 1, 0, place(1), -2)
        self.assert_as_it_was(FORK_OF_THREE, 5, 3, place(5), -2)
        self.assert_as_it_was(FORK_OF_THREE, 5, 3, place(LARGEST), -2)
        self.assert_as_it_was(FULL_OF_BOTH, 12, 11, place(12), -2)


class Sums(unittest.TestCase):
    def test_how_many_voters_and_how_long_all_roads_are(self):
        self.assertEqual(ask_behind(FORK_OF_THREE, sums()), [[3, 14]])

    def test_the_vote_of_village_0_is_no_voter(self):
        self.assertEqual(ask_behind(FORK_OF_TWO, sums()), [[2, 14]])

    def test_no_voters(self):
        self.assertEqual(ask(sums()), [[0, 0]])
        self.assertEqual(ask_behind(FORK, sums()), [[0, 14]])

    def test_no_roads(self):
        self.assertEqual(ask(vote(0), sums()), [[0], [1, 0]])

    def test_what_changed_before_counts(self):
        self.assertEqual(ask_behind(FORK_OF_THREE, road(3, 104), sums(), away(0), sums(), village(3, 6), sums(), start(),
                                    sums())[1::2], [[3, 114], [2, 114], [2, 120], [0, 0]])

    def test_all_that_can_be(self):
        self.assertEqual(ask_behind(FULL_OF_BOTH, sums()), [[11, 66]])
        self.assertEqual(ask_behind(LINE_OF_12, sums()), [[0, 11000]])


if __name__ == "__main__":
    unittest.main()
