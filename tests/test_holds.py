"""What holds, as far as it speaks of the calls that have landed."""

import itertools
import random
import unittest

from tests.lines import ask_behind, beaten, best, chosen, lie, move, rather, row, unbeaten, village, vote


class Some:
    """A valley by chance, of so many voters."""

    def __init__(self, source, voters):
        self.villages = source.randrange(2, 13)
        self.told = [source.randrange(self.villages) for i in range(voters)]
        self.calls = [village(source.randrange(v), source.randrange(1, 20)) for v in range(1, self.villages)]
        self.calls += [vote(v) for v in self.told]
        self.source = source

    def ask(self, *calls):
        return ask_behind(self.calls, *calls)

    def far(self):
        """How far each village is from each, learnt from one voter who lives in one and tells another."""
        alone = self.calls[:self.villages - 1]
        far = []
        for v in range(self.villages):
            lies = ask_behind(alone, vote(v), *[lie(0, w) for w in range(self.villages)])[1:]
            far.append([answer[1] for answer in lies])
        return far


def some_valleys(numbers_of_voters, count):
    source = random.Random(58)
    return [Some(source, voters) for voters in numbers_of_voters for k in range(count)]


class Holds(unittest.TestCase):
    def test_nobody_gains_by_lying(self):
        for one in some_valleys(range(1, 12), 6):
            far = one.far()
            place = one.ask(chosen())[0][0]
            for i, home in enumerate(one.told):
                lies = one.ask(*[lie(i, v) for v in range(one.villages)])
                self.assertEqual(one.ask(best(i)), [[far[home][place], far[home][place]]])
                self.assertEqual(lies[home], [place, far[home][place]])
                for answer in lies:
                    self.assertEqual(answer[1], far[home][answer[0]])
                    self.assertGreaterEqual(answer[1], far[home][place])

    def test_nor_do_several_together(self):
        for one in some_valleys(range(2, 12), 4):
            far = one.far()
            place = one.ask(chosen())[0][0]
            for k in range(20):
                liars = one.source.sample(range(len(one.told)), one.source.randrange(2, len(one.told) + 1))
                moves = [move(i, one.source.randrange(one.villages)) for i in liars]
                then = one.ask(*moves, chosen())[-1][0]
                self.assertTrue(any(far[one.told[i]][then] >= far[one.told[i]][place] for i in liars))

    def test_no_other_beats_it(self):
        for one in some_valleys(range(1, 12), 6):
            place = one.ask(chosen())[0][0]
            answered = one.ask(beaten(place), unbeaten())
            self.assertEqual(answered[0], [0, 0])
            self.assertTrue(answered[1][1] >> place & 1)
            if len(one.told) % 2 == 1:
                self.assertEqual(answered[1], [1, 1 << place])
                for v in range(one.villages):
                    counts = one.ask(rather(place, v))[0]
                    self.assertTrue(v == place or counts[0] > counts[1])

    def test_whatever_the_order(self):
        for one in some_valleys(range(1, 12, 2), 4):
            place = one.ask(chosen())[0][0]
            others = [v for v in range(one.villages) if v != place]
            some = [place] + one.source.sample(others, min(4, len(others)))
            rows = [row(len(some), *order) for order in itertools.permutations(some)]
            self.assertEqual(one.ask(*rows), [[place]] * len(rows))

    def test_who_votes_more_where_there_was_an_even_number(self):
        for one in some_valleys(range(2, 11, 2), 6):
            far = one.far()
            place = one.ask(chosen())[0][0]
            for v in range(one.villages):
                then = one.ask(vote(v), chosen())[1][0]
                self.assertLessEqual(far[v][then], far[v][place])

    def test_what_one_can_sway_lies_all_on_one_way(self):
        for one in some_valleys(range(1, 12), 4):
            if len(one.told) == 1:
                # One alone sways all there is: it is one's own to choose.
                continue
            far = one.far()
            for i in range(len(one.told)):
                places = sorted({answer[0] for answer in one.ask(*[lie(i, v) for v in range(one.villages)])})
                ends = max(((far[v][w], v, w) for v in places for w in places))
                for v in places:
                    self.assertEqual(far[ends[1]][v] + far[v][ends[2]], ends[0])


if __name__ == "__main__":
    unittest.main()
