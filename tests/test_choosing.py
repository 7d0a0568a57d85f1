"""Point 3: vo_chosen, vo_rather, vo_unbeaten, vo_beaten, vo_row."""

import unittest

from tests.examples import FORK, FORK_OF_THREE, FORK_OF_TWO, FULL_OF_BOTH, FULL_OF_VILLAGES
from tests.lines import (LARGEST, ask, ask_behind, beaten, chosen, everything, rather, road, row, unbeaten,
                         village, vote)


class Chosen(unittest.TestCase):
    def test_no_voters(self):
        self.assertEqual(ask(chosen()), [[-6]])
        self.assertEqual(ask_behind(FORK, chosen()), [[-6]])

    def test_one_voter(self):
        for v in range(5):
            self.assertEqual(ask_behind(FORK, vote(v), chosen()), [[0], [v, 0]])

    def test_an_odd_number_of_voters(self):
        self.assertEqual(ask_behind(FORK_OF_THREE, chosen()), [[1, 14]])
        self.assertEqual(ask_behind(FORK_OF_THREE, vote(4), vote(4), chosen())[-1], [4, 21])
        self.assertEqual(ask_behind(FORK_OF_THREE, vote(4), vote(0), chosen())[-1], [0, 21])

    def test_an_even_number_of_voters_has_one_vote_more_of_village_0(self):
        self.assertEqual(ask_behind(FORK_OF_TWO, chosen()), [[0, 10]])
        self.assertEqual(ask_behind(FORK, vote(1), vote(2), chosen())[-1], [1, 3])
        self.assertEqual(ask_behind(FORK, vote(4), vote(4), chosen())[-1], [4, 0])

    def test_that_vote_is_no_voter_who_is_far(self):
        # From village 1 the voters are 3 and 4 away; village 0, which nobody lives in, would add 5.
        self.assertEqual(ask_behind(FORK, vote(2), vote(3), chosen())[-1], [1, 7])

    def test_it_may_be_a_village_that_nobody_tells(self):
        self.assertEqual(ask_behind(FORK, vote(4), vote(2), vote(3), chosen())[-1], [1, 14])

    def test_a_branch_is_more_than_the_village_beside(self):
        line = [village(0, 1), village(1, 1), village(2, 1), village(3, 1)]
        self.assertEqual(ask_behind(line, vote(0), vote(3), vote(4), chosen())[-1], [3, 4])
        self.assertEqual(ask_behind(line, vote(4), vote(0), vote(1), chosen())[-1], [1, 4])

    def test_how_long_roads_are_does_not_matter_to_what_is_chosen(self):
        answered = ask_behind(FORK_OF_THREE, road(1, 1000), chosen(), road(2, 1000), chosen(), road(4, 1000), chosen())
        self.assertEqual(answered[1::2], [[1, 1009], [1, 2006], [1, 3004]])

    def test_all_that_can_be(self):
        # 11 voters at one end of 12 villages in a line, and as far away from it as can be.
        line = [village(v, 1000) for v in range(11)]
        answered = ask(*line, *[vote(11)] * 6, *[vote(0)] * 5, chosen())
        self.assertEqual(answered[-1], [11, 55000])

    def test_11_voters_in_12_villages(self):
        self.assertEqual(ask_behind(FULL_OF_BOTH, chosen()), [[1, 76]])


class Rather(unittest.TestCase):
    def test_how_many_would_have_either(self):
        answered = ask_behind(FORK_OF_THREE, rather(0, 1), rather(1, 0), rather(2, 3), rather(4, 2), rather(3, 4))
        self.assertEqual(answered, [[1, 2], [2, 1], [2, 1], [1, 2], [2, 1]])

    def test_who_has_it_as_far_to_both_is_for_neither(self):
        star = [village(0, 4), village(0, 4), village(0, 5)]
        self.assertEqual(ask_behind(star, vote(0), rather(1, 2), rather(1, 3), rather(3, 1)),
                         [[0], [0, 0], [1, 0], [0, 1]])
        self.assertEqual(ask_behind(star, vote(3), vote(2), rather(1, 2), rather(2, 1))[2:], [[0, 1], [1, 0]])

    def test_a_place_against_itself(self):
        self.assertEqual(ask_behind(FORK_OF_THREE, rather(2, 2), rather(0, 0)), [[0, 0], [0, 0]])

    def test_the_vote_of_village_0_is_no_voter(self):
        self.assertEqual(ask_behind(FORK_OF_TWO, rather(0, 1), rather(0, 3)), [[1, 1], [1, 1]])

    def test_no_voters(self):
        self.assertEqual(ask_behind(FORK, rather(0, 1)), [[0, 0]])

    def test_no_village(self):
        answered = ask_behind(FORK_OF_THREE, rather(5, 0), rather(0, 5), rather(5, 5), rather(LARGEST, 0),
                              rather(0, LARGEST))
        self.assertEqual(answered, [[-2]] * 5)

    def test_roads_count(self):
        # Voter 0 at village 2 is nearer to 3 as long as the road to 3 is short.
        self.assertEqual(ask_behind(FORK, vote(2), rather(3, 0), road(3, 5), rather(3, 0), road(3, 6), rather(3, 0))[1::2],
                         [[1, 0], [0, 0], [0, 1]])


class Unbeaten(unittest.TestCase):
    def test_with_an_odd_number_of_voters_just_one(self):
        self.assertEqual(ask_behind(FORK_OF_THREE, unbeaten()), [[1, 2]])
        self.assertEqual(ask_behind(FORK, vote(3), unbeaten()), [[0], [1, 8]])

    def test_with_an_even_number_of_voters_there_may_be_several(self):
        self.assertEqual(ask_behind(FORK_OF_TWO, unbeaten()), [[4, 23]])
        self.assertEqual(ask_behind(FORK, vote(4), vote(4), unbeaten())[-1], [1, 16])
        self.assertEqual(ask_behind(FORK, vote(4), vote(0), unbeaten())[-1], [2, 17])

    def test_without_voters_all(self):
        self.assertEqual(ask(unbeaten()), [[1, 1]])
        self.assertEqual(ask_behind(FORK, unbeaten()), [[5, 31]])
        self.assertEqual(ask_behind(FULL_OF_VILLAGES, unbeaten()), [[12, 4095]])

    def test_the_last_of_12_villages(self):
        self.assertEqual(ask_behind(FULL_OF_VILLAGES, vote(11), unbeaten()), [[0], [1, 2048]])


class Beaten(unittest.TestCase):
    def test_the_places_that_beat_it(self):
        answered = ask_behind(FORK_OF_THREE, *[beaten(v) for v in range(5)])
        self.assertEqual(answered, [[3, 14], [0, 0], [1, 2], [2, 6], [4, 15]])

    def test_to_have_as_many_is_not_to_beat(self):
        answered = ask_behind(FORK_OF_TWO, *[beaten(v) for v in range(5)])
        self.assertEqual(answered, [[0, 0], [0, 0], [0, 0], [2, 6], [0, 0]])

    def test_more_of_those_who_mind_is_enough(self):
        # One would rather have 1 than 2, to the two at village 0 they are as far.
        star = [village(0, 4), village(0, 4)]
        answered = ask_behind(star, vote(0), vote(0), vote(1), beaten(2), beaten(1))
        self.assertEqual(answered[3:], [[2, 3], [1, 1]])

    def test_no_voters(self):
        self.assertEqual(ask_behind(FORK, beaten(0), beaten(4)), [[0, 0], [0, 0]])

    def test_no_village(self):
        self.assertEqual(ask_behind(FORK_OF_THREE, beaten(5), beaten(LARGEST)), [[-2], [-2]])
        self.assertEqual(ask_behind(FULL_OF_BOTH, beaten(12)), [[-2]])


class Row(unittest.TestCase):
    def test_one_is_left_of_itself(self):
        self.assertEqual(ask_behind(FORK_OF_THREE, row(1, 4), row(1, 0)), [[4], [0]])

    def test_the_one_that_beats_the_other_stays(self):
        self.assertEqual(ask_behind(FORK_OF_THREE, row(2, 4, 0), row(2, 0, 4), row(2, 2, 3), row(2, 3, 2)),
                         [[0], [0], [2], [2]])

    def test_and_goes_on_against_the_next(self):
        self.assertEqual(ask_behind(FORK_OF_THREE, row(3, 0, 2, 3), row(3, 4, 0, 3), row(4, 4, 3, 0, 2)),
                         [[2], [3], [2]])

    def test_five(self):
        self.assertEqual(ask_behind(FORK_OF_THREE, row(5, 4, 0, 3, 2, 1), row(5, 1, 4, 0, 3, 2), row(5, 0, 0, 4, 4, 0)),
                         [[1], [1], [0]])

    def test_if_neither_beats_the_other_the_one_that_stood_stays(self):
        self.assertEqual(ask_behind(FORK_OF_TWO, row(2, 0, 4), row(2, 4, 0), row(4, 2, 1, 0, 4), row(3, 3, 4, 0)),
                         [[0], [4], [2], [3]])

    def test_the_order_may_matter_with_an_even_number_of_voters(self):
        # 1 beats 3, but neither 4 nor 0 does, so it depends on where 3 stands.
        self.assertEqual(ask_behind(FORK_OF_TWO, row(3, 3, 1, 4), row(3, 4, 3, 1), row(4, 3, 0, 4, 1)),
                         [[1], [4], [1]])

    def test_the_same_place_several_times(self):
        self.assertEqual(ask_behind(FORK_OF_THREE, row(5, 3, 3, 3, 3, 3)), [[3]])

    def test_no_voters(self):
        self.assertEqual(ask_behind(FORK, row(3, 4, 1, 0)), [[4]])

    def test_n_is_not_1_to_5(self):
        self.assertEqual(ask_behind(FORK_OF_THREE, row(0, 0, 1, 2, 3, 4), row(6, 0, 1, 2, 3, 4),
                                    row(LARGEST, 0, 1, 2, 3, 4)), [[-22]] * 3)

    def test_one_is_not_there(self):
        for k in range(5):
            places = [0, 1, 2, 3, 4]
            places[k] = 5
            self.assertEqual(ask_behind(FORK_OF_THREE, row(5, *places)), [[-2]])
            places[k] = LARGEST
            self.assertEqual(ask_behind(FORK_OF_THREE, row(5, *places)), [[-2]])

    def test_n_is_looked_at_first(self):
        self.assertEqual(ask_behind(FORK_OF_THREE, row(0, 5), row(6, 5, 5, 5, 5, 5), row(6)), [[-22]] * 3)

    def test_places_behind_the_first_n_do_not_count(self):
        for n in range(1, 5):
            places = [4, 0, 3, 2, 1]
            rest = [places[:n] + [behind] * (5 - n) for behind in (1, 5, 12, LARGEST)]
            answered = ask_behind(FORK_OF_THREE, *[row(n, *one) for one in rest])
            self.assertEqual(answered, [[(4, 0, 3, 2)[n - 1]]] * 4)

    def test_the_first_beyond_the_places_that_count(self):
        self.assertEqual(ask_behind(FORK_OF_THREE, row(4, 4, 0, 3, 2, LARGEST), row(5, 4, 0, 3, 2, LARGEST)), [[2], [-2]])


class Questions(unittest.TestCase):
    def test_they_change_nothing(self):
        questions = everything(5, 3) + [row(3, 4, 2, 0), row(0), row(2, 9, 9)]
        answered = ask_behind(FORK_OF_THREE, *questions, *questions)
        self.assertEqual(answered[:len(questions)], answered[len(questions):])


if __name__ == "__main__":
    unittest.main()
