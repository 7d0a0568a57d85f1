"""Points 1 and 2: vo_start, vo_village, vo_road, vo_vote, vo_move, vo_away."""

import unittest

from tests.as_it_was import AsItWas
from tests.examples import FORK, FORK_FAR, FORK_OF_THREE, FULL_OF_BOTH, FULL_OF_VILLAGES
from tests.lines import (LARGEST, ask, ask_behind, away, beaten, best, chosen, last, move,
                         rather, road, start, unbeaten, village, vote)


class Start(AsItWas):
    def test_there_is_village_0_alone_and_no_voter(self):
        self.assertEqual(ask(), [])
        self.assertEqual(ask(unbeaten(), beaten(0), beaten(1), chosen(), best(0)),
                         [[1, 1], [0, 0], [-2], [-6], [-2]])

    def test_again_it_takes_villages_and_voters_away(self):
        answered = ask_behind(FORK_OF_THREE, start(), unbeaten(), beaten(1), chosen(), best(0), vote(0), village(0, 9))
        self.assertEqual(answered, [[0], [1, 1], [-2], [-6], [-2], [0], [1]])

    def test_again_in_a_full_valley_there_is_room(self):
        answered = ask_behind(FULL_OF_BOTH, village(0, 1), vote(0), start(), *FULL_OF_BOTH)
        self.assertEqual(answered, [[-28], [-28], [0]] + [[v] for v in range(1, 12)] + [[i] for i in range(11)])

    def test_roads_from_before_are_forgotten(self):
        answered = ask_behind(FORK, start(), village(0, 7), road(1, 8), road(1, 9))
        self.assertEqual(answered, [[0], [1], [7], [8]])

    def test_twice_at_once(self):
        self.assertEqual(ask(start(), start()), [[0], [0]])


class Village(AsItWas):
    def test_answers_its_number(self):
        self.assertEqual(ask(*FORK), [[1], [2], [3], [4]])

    def test_its_road_leads_to_its_up_and_is_so_long(self):
        for v in range(5):
            totals = []
            for home in range(5):
                # Two at v and one elsewhere: v is chosen, and the one's way is all there is.
                totals.append(last(*FORK, vote(v), vote(v), vote(home), chosen()))
            self.assertEqual(totals, [[v, far] for far in FORK_FAR[v]])

    def test_roads_of_1_and_of_1000(self):
        answered = ask(village(0, 1), village(0, 1000), vote(1), vote(1), vote(2), chosen())
        self.assertEqual(answered, [[1], [2], [0], [1], [2], [1, 1001]])

    def test_no_up(self):
        self.assert_as_it_was([], 1, 0, village(1, 5), -2)
        self.assert_as_it_was(FORK_OF_THREE, 5, 3, village(5, 5), -2)
        self.assert_as_it_was(FORK_OF_THREE, 5, 3, village(LARGEST, 5), -2)

    def test_too_short_and_too_long(self):
        for far in (0, 1001, LARGEST):
            self.assert_as_it_was(FORK_OF_THREE, 5, 3, village(4, far), -22)

    def test_there_are_12(self):
        self.assertEqual(ask(*FULL_OF_VILLAGES), [[v] for v in range(1, 12)])
        self.assert_as_it_was(FULL_OF_VILLAGES + [vote(11)], 12, 1, village(11, 1), -28)
        self.assert_as_it_was(FULL_OF_BOTH, 12, 11, village(0, 1000), -28)

    def test_the_twelfth_is_a_village_like_others(self):
        self.assertEqual(ask_behind(FULL_OF_VILLAGES, vote(11), chosen(), road(11, 3), beaten(0)),
                         [[0], [11, 0], [11], [3, 2084]])

    def test_which_refusal_comes_first(self):
        self.assert_as_it_was(FORK, 5, 0, village(5, 0), -2)
        self.assert_as_it_was(FULL_OF_BOTH, 12, 11, village(12, 1001), -2)
        self.assert_as_it_was(FULL_OF_BOTH, 12, 11, village(12, 5), -2)
        self.assert_as_it_was(FULL_OF_BOTH, 12, 11, village(0, 0), -22)
        self.assert_as_it_was(FULL_OF_BOTH, 12, 11, village(0, 1001), -22)

    def test_a_refused_one_takes_no_number(self):
        self.assertEqual(ask(village(1, 5), village(0, 0), village(0, 5)), [[-2], [-22], [1]])


class Road(AsItWas):
    def test_answers_how_long_it_was(self):
        self.assertEqual(ask_behind(FORK, road(3, 9), road(3, 1), road(3, 1000), road(3, 1000), road(1, 6)),
                         [[4], [9], [1], [1000], [5]])

    def test_from_then_on_it_is_so_long(self):
        answered = ask_behind(FORK_OF_THREE, chosen(), road(2, 1000), chosen(), road(1, 1), chosen(), road(3, 1), chosen())
        self.assertEqual(answered, [[1, 14], [3], [1, 1011], [5], [1, 1007], [4], [1, 1004]])

    def test_other_roads_stay(self):
        self.assertEqual(ask_behind(FORK, road(2, 10), road(1, 20), road(3, 30), road(4, 40)), [[3], [5], [4], [2]])

    def test_no_village(self):
        self.assert_as_it_was(FORK_OF_THREE, 5, 3, road(5, 1), -2)
        self.assert_as_it_was(FORK_OF_THREE, 5, 3, road(LARGEST, 1), -2)

    def test_too_short_and_too_long(self):
        for n in (0, 1001, LARGEST):
            self.assert_as_it_was(FORK_OF_THREE, 5, 3, road(2, n), -22)

    def test_village_0_has_none(self):
        self.assert_as_it_was(FORK_OF_THREE, 5, 3, road(0, 1), -33)
        self.assert_as_it_was([], 1, 0, road(0, 1000), -33)

    def test_which_refusal_comes_first(self):
        self.assert_as_it_was(FORK, 5, 0, road(5, 0), -2)
        self.assert_as_it_was(FORK, 5, 0, road(5, 1001), -2)
        self.assert_as_it_was(FORK, 5, 0, road(0, 0), -22)
        self.assert_as_it_was(FORK, 5, 0, road(0, 1001), -22)


class Vote(AsItWas):
    def test_answers_their_number(self):
        self.assertEqual(ask_behind(FORK, vote(3), vote(0), vote(3), vote(4)), [[0], [1], [2], [3]])

    def test_they_tell_that_village(self):
        self.assertEqual(ask_behind(FORK, vote(3), vote(0), vote(4), move(0, 1), move(1, 1), move(2, 1)),
                         [[0], [1], [2], [3], [0], [4]])

    def test_no_village(self):
        self.assert_as_it_was([], 1, 0, vote(1), -2)
        self.assert_as_it_was(FORK_OF_THREE, 5, 3, vote(5), -2)
        self.assert_as_it_was(FORK_OF_THREE, 5, 3, vote(LARGEST), -2)

    def test_there_are_11(self):
        self.assertEqual(ask(*[vote(0) for i in range(12)]), [[i] for i in range(11)] + [[-28]])
        self.assert_as_it_was(FULL_OF_BOTH, 12, 11, vote(0), -28)
        self.assert_as_it_was(FULL_OF_BOTH, 12, 11, vote(11), -28)

    def test_which_refusal_comes_first(self):
        self.assert_as_it_was(FULL_OF_BOTH, 12, 11, vote(12), -2)
        self.assert_as_it_was(FULL_OF_BOTH, 12, 11, vote(LARGEST), -2)


class Move(AsItWas):
    def test_answers_which_they_told(self):
        self.assertEqual(ask_behind(FORK_OF_THREE, move(1, 0), move(1, 4), move(1, 4), move(0, 1), move(2, 2)),
                         [[3], [0], [4], [2], [4]])

    def test_from_then_on_they_tell_the_other(self):
        self.assertEqual(ask_behind(FORK_OF_THREE, chosen(), move(2, 3), chosen(), rather(2, 3)),
                         [[1, 14], [4], [3, 7], [1, 2]])

    def test_no_voter(self):
        self.assert_as_it_was(FORK, 5, 0, move(0, 0), -2)
        self.assert_as_it_was(FORK_OF_THREE, 5, 3, move(3, 0), -2)
        self.assert_as_it_was(FORK_OF_THREE, 5, 3, move(LARGEST, 0), -2)

    def test_no_village(self):
        self.assert_as_it_was(FORK_OF_THREE, 5, 3, move(0, 5), -2)
        self.assert_as_it_was(FORK_OF_THREE, 5, 3, move(0, LARGEST), -2)
        self.assert_as_it_was(FORK_OF_THREE, 5, 3, move(3, 5), -2)

    def test_the_eleventh_voter_and_the_twelfth_village(self):
        self.assertEqual(ask_behind(FULL_OF_BOTH, move(10, 11), move(10, 0)), [[10], [11]])
        self.assert_as_it_was(FULL_OF_BOTH, 12, 11, move(11, 11), -2)
        self.assert_as_it_was(FULL_OF_BOTH, 12, 11, move(10, 12), -2)


class Away(AsItWas):
    def test_answers_how_many_are_left(self):
        self.assertEqual(ask_behind(FORK_OF_THREE, away(1), away(1), away(0), away(0)), [[2], [1], [0], [-2]])

    def test_those_behind_have_one_number_less(self):
        for gone, left in ((0, [3, 4]), (1, [2, 4]), (2, [2, 3])):
            answered = ask_behind(FORK_OF_THREE, away(gone), move(0, 0), move(1, 0), move(2, 0))
            self.assertEqual(answered, [[2], [left[0]], [left[1]], [-2]])

    def test_their_vote_does_not_count_any_more(self):
        self.assertEqual(ask_behind(FORK_OF_THREE, away(2), chosen(), away(0), chosen(), away(0), chosen()),
                         [[2], [1, 7], [1], [3, 0], [0], [-6]])

    def test_the_next_voter_has_the_number_that_is_free(self):
        self.assertEqual(ask_behind(FULL_OF_BOTH, vote(0), away(3), vote(7), vote(0), move(10, 0), move(9, 0)),
                         [[-28], [10], [10], [-28], [7], [10]])

    def test_no_voter(self):
        self.assert_as_it_was([], 1, 0, away(0), -2)
        self.assert_as_it_was(FORK_OF_THREE, 5, 3, away(3), -2)
        self.assert_as_it_was(FORK_OF_THREE, 5, 3, away(LARGEST), -2)
        self.assert_as_it_was(FULL_OF_BOTH, 12, 11, away(11), -2)


if __name__ == "__main__":
    unittest.main()
