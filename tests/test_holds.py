"""What holds over the whole program."""

import itertools
import random
import unittest

from tests.lines import (again, ask_behind, away, back, beaten, best, both, chosen, far, lie, look, move, nearer, place,
                         rather, road, row, sways, total, unbeaten, village, vote, with_one_more)


class Some:
    """A valley by chance, of so many voters."""

    def __init__(self, source, voters):
        self.villages = source.randrange(2, 13)
        self.told = [source.randrange(self.villages) for i in range(voters)]
        self.calls = [village(source.randrange(v), source.randrange(1, 20)) for v in range(1, self.villages)]
        self.calls += [vote(v) for v in self.told]
        self.source = source

    def ask(self, *calls):
        return ask_behind(self.calls, *calls)

    def ways(self):
        """How far each village is from each: as far as from one voter who lives there alone."""
        alone = self.calls[:self.villages - 1]
        ways = []
        for v in range(self.villages):
            totals = ask_behind(alone, vote(v), *[total(w) for w in range(self.villages)])[1:]
            ways.append([answer[0] for answer in totals])
        return ways


def some_valleys(numbers_of_voters, count):
    source = random.Random(58)
    return [Some(source, voters) for voters in numbers_of_voters for k in range(count)]


class Holds(unittest.TestCase):
    def test_nobody_gains_by_lying(self):
        for one in some_valleys(range(1, 12), 6):
            ways = one.ways()
            now = one.ask(chosen())[0][0]
            for i, home in enumerate(one.told):
                lies = one.ask(*[lie(i, v) for v in range(one.villages)])
                self.assertEqual(one.ask(best(i), far(i)), [[ways[home][now], ways[home][now]], [ways[home][now]]])
                self.assertEqual(lies[home], [now, ways[home][now]])
                for answer in lies:
                    self.assertEqual(answer[1], ways[home][answer[0]])
                    self.assertGreaterEqual(answer[1], ways[home][now])

    def test_nor_do_two_together(self):
        for one in some_valleys(range(2, 12), 4):
            fars = [answer[0] for answer in one.ask(*[far(i) for i in range(len(one.told))])]
            for i, j in itertools.permutations(range(len(one.told)), 2):
                v, w = one.source.randrange(one.villages), one.source.randrange(one.villages)
                answer, moved = one.ask(both(i, j, v, w), move(i, v), move(j, w), chosen())[0::3]
                self.assertEqual(answer[0], moved[0])
                self.assertTrue(answer[1] >= fars[i] or answer[2] >= fars[j])

    def test_nor_do_several_together(self):
        for one in some_valleys(range(2, 12), 4):
            ways = one.ways()
            now = one.ask(chosen())[0][0]
            for k in range(20):
                liars = one.source.sample(range(len(one.told)), one.source.randrange(2, len(one.told) + 1))
                moves = [move(i, one.source.randrange(one.villages)) for i in liars]
                then = one.ask(*moves, chosen())[-1][0]
                self.assertTrue(any(ways[one.told[i]][then] >= ways[one.told[i]][now] for i in liars))

    def test_no_other_beats_it(self):
        for one in some_valleys(range(1, 12), 6):
            now = one.ask(chosen())[0][0]
            answered = one.ask(beaten(now), unbeaten())
            self.assertEqual(answered[0], [0, 0])
            self.assertTrue(answered[1][1] >> now & 1)
            for v in range(one.villages):
                counts, for_it = one.ask(rather(now, v), nearer(v))
                self.assertEqual(for_it, counts[1:])
                self.assertGreaterEqual(counts[0], counts[1])
                self.assertTrue(v == now or len(one.told) % 2 == 0 or counts[0] > counts[1])
            if len(one.told) % 2 == 1:
                self.assertEqual(answered[1], [1, 1 << now])

    def test_whatever_the_order(self):
        for one in some_valleys(range(1, 12, 2), 4):
            now = one.ask(chosen())[0][0]
            others = [v for v in range(one.villages) if v != now]
            some = [now] + one.source.sample(others, min(4, len(others)))
            rows = [row(len(some), *order) for order in itertools.permutations(some)]
            self.assertEqual(one.ask(*rows), [[now]] * len(rows))

    def test_only_one_place_has_no_branch_with_more_than_half(self):
        for one in some_valleys(range(1, 12), 6):
            ways = one.ways()
            votes = one.told if len(one.told) % 2 == 1 else one.told + [0]
            roads = [(v, one.ask(place(v))[0][0]) for v in range(1, one.villages)]
            too_many = set()
            for v, w in roads + [(w, v) for v, w in roads]:
                beyond = [home for home in votes if ways[home][v] == ways[home][w] + ways[w][v]]
                if 2 * len(beyond) > len(votes):
                    too_many.add(v)
            self.assertEqual([v for v in range(one.villages) if v not in too_many], one.ask(chosen())[0][:1])

    def test_who_votes_more_where_there_was_an_even_number(self):
        for one in some_valleys(range(0, 11, 2), 6):
            ways = one.ways()
            # Without voters it's village 0.
            now = one.ask(chosen())[0][0] if one.told else 0
            for v in range(one.villages):
                then, number, voted = one.ask(with_one_more(v), vote(v), chosen())
                self.assertEqual(then, voted[:1])
                self.assertLessEqual(ways[v][then[0]], ways[v][now])

    def test_what_one_can_sway_lies_all_on_one_way(self):
        for one in some_valleys(range(1, 12), 4):
            if len(one.told) == 1:
                # One alone sways all there is: it is one's own to choose.
                self.assertEqual(one.ask(sways(0)), [[one.villages, (1 << one.villages) - 1]])
                continue
            ways = one.ways()
            for i in range(len(one.told)):
                count, bits = one.ask(sways(i))[0]
                places = [v for v in range(one.villages) if bits >> v & 1]
                self.assertEqual(len(places), count)
                ends = max(((ways[v][w], v, w) for v in places for w in places))
                for v in places:
                    self.assertEqual(ways[ends[1]][v] + ways[v][ends[2]], ends[0])

    def test_all_can_be_taken_back_and_done_again(self):
        for one in some_valleys(range(1, 11), 3):
            changes = [vote(one.villages - 1), away(0)]
            for k in range(9):
                changes.append(move(0, one.source.randrange(one.villages)))
                changes.append(road(one.source.randrange(1, one.villages), one.source.randrange(1, 1001)))
            questions = [place(v) for v in range(one.villages)] + [look(i) for i in range(12)] + [chosen()]
            behind = [one.ask(*changes[:k], *questions)[k:] for k in range(21)]
            for k in range(21):
                self.assertEqual(one.ask(*changes, *[back()] * k, *questions)[20 + k:], behind[20 - k])
                all_back = changes + [back()] * 20
                self.assertEqual(one.ask(*all_back, *[again()] * k, *questions)[40 + k:], behind[k])


if __name__ == "__main__":
    unittest.main()
