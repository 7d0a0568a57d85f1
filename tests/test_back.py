"""Point 6, and of point 1 what can be taken back: vo_back, vo_again, vo_state."""

import unittest

from tests.as_it_was import AsItWas
from tests.examples import FORK, FORK_OF_THREE, FORK_OF_TWO, FULL_OF_BOTH, FULL_OF_VILLAGES
from tests.lines import (LARGEST, again, ask, ask_behind, away, back, both, chosen, everything, last, look, move, place,
                         road, row, start, state, sums, unbeaten, village, vote, who)


def so_many_changes(count):
    """Village 1 with a road of 1, then of 2, of 3 and so on."""
    return [village(0, 1)] + [road(1, n) for n in range(2, count + 1)]


class EachKind(unittest.TestCase):
    def assert_back_and_again(self, before, villages, voters, *changes):
        """All that can be asked is answered as before the changes, and as behind them."""
        questions = everything(villages, voters)
        backs = [back()] * len(changes)
        agains = [again()] * len(changes)
        as_before = ask_behind(before, *questions)
        as_behind = ask_behind(before + list(changes), *questions)
        self.assertNotEqual(as_before, as_behind)
        for turns in range(3):
            by_turns = before + list(changes) + (backs + agains) * turns
            self.assertEqual(ask_behind(by_turns, *questions), as_behind)
            self.assertEqual(ask_behind(by_turns + backs, *questions), as_before)

    def test_a_village(self):
        self.assert_back_and_again([], 2, 0, village(0, 5))
        self.assert_back_and_again(FORK_OF_THREE, 6, 3, village(3, 1000))
        self.assert_back_and_again(FULL_OF_VILLAGES[:10], 12, 0, village(5, 11))

    def test_a_road(self):
        self.assert_back_and_again(FORK_OF_THREE, 5, 3, road(1, 1000))
        self.assert_back_and_again(FORK_OF_TWO, 5, 2, road(4, 1))
        self.assert_back_and_again(FULL_OF_BOTH, 12, 11, road(11, 500))

    def test_a_vote(self):
        self.assert_back_and_again([], 1, 1, vote(0))
        self.assert_back_and_again(FORK_OF_THREE, 5, 4, vote(4))
        self.assert_back_and_again(FORK_OF_TWO, 5, 3, vote(3))
        self.assert_back_and_again(FULL_OF_BOTH[:-1], 12, 11, vote(11))

    def test_a_move(self):
        self.assert_back_and_again(FORK_OF_THREE, 5, 3, move(0, 4))
        self.assert_back_and_again(FORK_OF_TWO, 5, 2, move(1, 3))
        self.assert_back_and_again(FULL_OF_BOTH, 12, 11, move(10, 11))

    def test_one_who_is_away(self):
        for i in range(3):
            self.assert_back_and_again(FORK_OF_THREE, 5, 3, away(i))
        self.assert_back_and_again([vote(0)], 1, 1, away(0))
        self.assert_back_and_again(FULL_OF_BOTH, 12, 11, away(0))

    def test_several_of_all_kinds(self):
        self.assert_back_and_again(FORK_OF_THREE, 7, 4, village(4, 9), move(1, 5), road(5, 8), vote(5), away(0), vote(5),
                                   village(5, 1), move(2, 6), away(1), road(6, 2))

    def test_all_there_is(self):
        self.assert_back_and_again([], 5, 3, *FORK_OF_THREE)


class Back(AsItWas):
    def test_answers_how_many_can_still_be(self):
        self.assertEqual(ask_behind(FORK_OF_THREE, *[back()] * 9), [[6], [5], [4], [3], [2], [1], [0], [-2], [-2]])

    def test_the_last_one_is_taken_back_first(self):
        answered = ask(*so_many_changes(3), place(1), back(), place(1), back(), place(1), back(), place(1))[3:]
        self.assertEqual(answered, [[0, 3], [2], [0, 2], [1], [0, 1], [0], [-2]])

    def test_those_behind_have_their_numbers_again(self):
        answered = ask_behind(FORK_OF_THREE, away(0), away(0), back(), look(0), look(1), back(), look(0), look(1), look(2))
        self.assertEqual(answered, [[2], [1], [8], [3], [4], [7], [2], [3], [4]])

    def test_room_is_there_again(self):
        self.assertEqual(ask_behind(FULL_OF_BOTH, vote(0), back(), vote(5), look(10), vote(0)),
                         [[-28], [19], [10], [5], [-28]])
        self.assertEqual(ask_behind(FULL_OF_VILLAGES, village(0, 1), back(), village(4, 9), place(11), village(0, 1)),
                         [[-28], [10], [11], [4, 9], [-28]])

    def test_another_village_in_the_place_of_one_taken_back(self):
        taken_back = FORK + [village(2, 50), vote(5), chosen(), back(), back()]
        questions = everything(6, 1)
        self.assertEqual(ask_behind(taken_back + [village(4, 60), vote(5)], *questions),
                         ask_behind(FORK + [village(4, 60), vote(5)], *questions))

    def test_a_change_that_is_as_it_was_is_a_change(self):
        answered = ask_behind(FORK_OF_THREE, road(1, 5), move(0, 2), state(), back(), back(), state())
        self.assertEqual(answered, [[5], [2], [5, 9, 0], [8], [7], [5, 7, 2]])

    def test_no_change_to_take_back(self):
        self.assert_as_it_was([], 1, 0, back(), -2)
        self.assertEqual(ask(back(), state()), [[-2], [1, 0, 0]])
        self.assertEqual(ask(vote(1), chosen(), back()), [[-2], [-6], [-2]])

    def test_refused_all_is_as_it_was(self):
        all_back = FORK + [back()] * 4
        for behind in ([], [back()], [back()] * 30):
            answered = ask_behind(all_back + behind, state(), place(1), again(), place(1), again(), again(), again(), state())
            self.assertEqual(answered, [[1, 0, 4], [-2], [3], [0, 5], [2], [1], [0], [5, 4, 0]])


class Again(unittest.TestCase):
    def test_answers_how_many_there_still_are(self):
        answered = ask_behind(FORK_OF_THREE, *[back()] * 4, *[again()] * 6)
        self.assertEqual(answered, [[6], [5], [4], [3], [3], [2], [1], [0], [-2], [-2]])

    def test_the_one_that_was_taken_back_last_is_done_first(self):
        answered = ask_behind(so_many_changes(4), back(), back(), back(), again(), place(1), again(), place(1), again(),
                              place(1), again())[3:]
        self.assertEqual(answered, [[2], [0, 2], [1], [0, 3], [0], [0, 4], [-2]])

    def test_none_to_be_done_again(self):
        self.assertEqual(ask(again(), state()), [[-2], [1, 0, 0]])
        self.assertEqual(ask_behind(FORK, again(), state()), [[-2], [5, 4, 0]])

    def test_refused_all_is_as_it_was(self):
        questions = everything(5, 3) + [state(), back(), state()]
        for behind in ([again()], [again()] * 30, [back(), again(), again()]):
            answered = ask_behind(FORK_OF_THREE + behind, *questions)
            self.assertEqual(answered, ask_behind(FORK_OF_THREE, *questions))

    def test_what_is_done_again_can_be_taken_back(self):
        answered = ask_behind(FORK_OF_THREE, back(), again(), back(), look(2), again(), look(2))
        self.assertEqual(answered, [[6], [0], [6], [-2], [0], [4]])

    def test_behind_another_change_there_is_none(self):
        for change in (village(2, 4), road(2, 4), vote(2), move(0, 4), away(0)):
            answered = ask_behind(FORK_OF_THREE, back(), back(), state(), change, state(), again(), state())
            self.assertEqual(answered[2], [5, 5, 2])
            villages = 6 if change[0] == 1 else 5
            self.assertEqual(answered[4:], [[villages, 6, 0], [-2], [villages, 6, 0]])

    def test_the_same_change_once_more_is_another_one(self):
        self.assertEqual(ask_behind(FORK_OF_THREE, back(), back(), vote(3), again(), look(1), look(2), state()),
                         [[6], [5], [1], [-2], [3], [-2], [5, 6, 0]])

    def test_the_other_change_can_be_taken_back_and_done_again(self):
        answered = ask_behind(FORK_OF_THREE, back(), back(), move(0, 4), back(), look(0), again(), look(0), again(), state())
        self.assertEqual(answered, [[6], [5], [2], [5], [2], [0], [4], [-2], [5, 6, 0]])


class Twenty(unittest.TestCase):
    def test_20_can_be_taken_back_and_done_again(self):
        answered = ask_behind(so_many_changes(20), state(), *[back()] * 21, state(), *[again()] * 21, state(), place(1))
        down = [[count] for count in range(19, -1, -1)] + [[-2]]
        self.assertEqual(answered, [[2, 20, 0]] + down + [[1, 0, 20]] + down + [[2, 20, 0], [0, 20]])

    def test_of_21_the_first_stays(self):
        answered = ask_behind(so_many_changes(21), state(), *[back()] * 21, state(), place(1), *[again()] * 21, place(1))
        down = [[count] for count in range(19, -1, -1)] + [[-2]]
        self.assertEqual(answered, [[2, 20, 0]] + down + [[2, 0, 20], [0, 1]] + down + [[0, 21]])

    def test_of_more_the_last_20(self):
        for count in (22, 40, 41, 500):
            answered = ask_behind(so_many_changes(count), state(), *[back()] * 21, place(1))
            self.assertEqual(answered[0], [2, 20, 0])
            self.assertEqual(answered[20:], [[0], [-2], [0, count - 20]])

    def test_each_of_the_20_in_turn(self):
        answered = ask_behind(so_many_changes(30), *[back(), place(1)] * 20, *[again(), place(1)] * 20)
        down = [[0, n] for n in range(29, 9, -1)]
        up = [[0, n] for n in range(11, 31)]
        self.assertEqual(answered[1::2], down + up)

    def test_back_and_again_by_turns(self):
        for count in (20, 21, 30):
            answered = ask_behind(so_many_changes(count), *[back(), state(), place(1), again(), state(), place(1)] * 50)
            self.assertEqual(answered, [[19], [2, 19, 1], [0, count - 1], [0], [2, 20, 0], [0, count]] * 50)
            self.assertEqual(last(*so_many_changes(count), *[back(), again()] * 50, *[back()] * 20), [0])

    def test_another_change_where_some_were_taken_back(self):
        answered = ask_behind(so_many_changes(20), back(), road(1, 99), state(), road(1, 98), state(), *[back()] * 20, state(),
                              place(1))
        self.assertEqual(answered[:5], [[19], [19], [2, 20, 0], [99], [2, 20, 0]])
        self.assertEqual(answered[-3:], [[0], [2, 0, 20], [0, 1]])

    def test_fewer_where_more_were_taken_back(self):
        answered = ask_behind(so_many_changes(25), *[back()] * 12, road(1, 99), state(), *[back()] * 10, place(1))
        self.assertEqual(answered[12:14], [[13], [2, 9, 0]])
        self.assertEqual(answered[14:], [[count] for count in range(8, -1, -1)] + [[-2], [0, 5]])


class State(unittest.TestCase):
    def test_a_new_valley(self):
        self.assertEqual(ask(state()), [[1, 0, 0]])

    def test_villages_then_to_take_back_then_to_be_done_again(self):
        self.assertEqual(ask_behind(FORK_OF_THREE, state(), back(), state(), back(), back(), back(), state(), again(), state()),
                         [[5, 7, 0], [6], [5, 6, 1], [5], [4], [3], [4, 3, 4], [3], [5, 4, 3]])

    def test_no_voters(self):
        self.assertEqual(ask_behind(FORK, state()), [[5, 4, 0]])

    def test_each_kind_of_change_counts(self):
        answered = ask(village(0, 1), state(), road(1, 2), state(), vote(1), state(), move(0, 0), state(), away(0), state())
        self.assertEqual(answered[1::2], [[2, 1, 0], [2, 2, 0], [2, 3, 0], [2, 4, 0], [2, 5, 0]])

    def test_12_villages(self):
        self.assertEqual(ask_behind(FULL_OF_VILLAGES, state()), [[12, 11, 0]])
        self.assertEqual(ask_behind(FULL_OF_BOTH, state(), back(), state()), [[12, 20, 0], [19], [12, 19, 1]])

    def test_refused_changes_leave_it(self):
        valley = FORK_OF_THREE + [back(), back()]
        refused = [village(5, 1), village(0, 0), village(0, 1001), village(LARGEST, LARGEST), road(5, 1), road(1, 0),
                   road(1, 1001), road(0, 1), road(LARGEST, 1), vote(5), vote(LARGEST), move(1, 0), move(0, 5),
                   move(LARGEST, LARGEST), away(1), away(LARGEST)]
        for call in refused:
            answered = ask_behind(valley, call, state(), again(), again(), look(1), look(2), *[back()] * 8)
            self.assertLess(answered[0][0], 0)
            self.assertEqual(answered[1:], [[5, 5, 2], [1], [0], [3], [4], [6], [5], [4], [3], [2], [1], [0], [-2]])

    def test_changes_refused_for_want_of_room_leave_it(self):
        valley = FULL_OF_BOTH + [road(1, 9), road(1, 8), back()]
        for call in (village(0, 1), vote(0)):
            answered = ask_behind(valley, call, state(), again(), place(1))
            self.assertEqual(answered, [[-28], [12, 19, 1], [0], [0, 8]])

    def test_questions_leave_it(self):
        valley = FORK_OF_THREE + [back(), back()]
        questions = everything(5, 1) + [row(2, 1, 0), row(0), row(1, 9), both(0, 0, 0, 0), state(), chosen(), unbeaten()]
        for call in questions:
            self.assertEqual(ask_behind(valley, call, state(), again(), again(), state())[1:],
                             [[5, 5, 2], [1], [0], [5, 7, 0]])


class StartInTheMiddle(unittest.TestCase):
    def test_none_to_take_back(self):
        self.assertEqual(ask_behind(FORK_OF_THREE, start(), state(), back(), state(), sums()),
                         [[0], [1, 0, 0], [-2], [1, 0, 0], [0, 0]])

    def test_none_to_be_done_again(self):
        self.assertEqual(ask_behind(FORK_OF_THREE, back(), back(), start(), state(), again(), back(), state(), sums())[2:],
                         [[0], [1, 0, 0], [-2], [-2], [1, 0, 0], [0, 0]])

    def test_it_begins_anew(self):
        answered = ask_behind(so_many_changes(25), start(), vote(0), state(), back(), who(0), back(), again(), who(0), again())
        self.assertEqual(answered, [[0], [0], [1, 1, 0], [0], [0, 0], [-2], [0], [1, 1], [-2]])


if __name__ == "__main__":
    unittest.main()
