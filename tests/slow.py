"""The document's words worked out the long way, to hold the program's answers against."""


class Slow:
    def __init__(self):
        self.start()

    def start(self):
        self.done = []
        self.undone = []
        self.can_go_back = 0
        self.make_of_changes()
        return [0]

    def make_of_changes(self):
        """The valley as the changes make it that were done and not taken back, from the first on."""
        self.joined = {0: {}}
        self.up = {}
        self.voters = []
        self.ways = {}
        for call in self.done:
            self.call(call)

    def village(self, up, far):
        if up not in self.joined:
            return [-2]
        if far not in range(1, 1001):
            return [-22]
        if len(self.joined) == 12:
            return [-28]
        v = len(self.joined)
        self.joined[v] = {up: far}
        self.joined[up][v] = far
        self.up[v] = up
        return [v]

    def road(self, v, n):
        if v not in self.joined:
            return [-2]
        if n not in range(1, 1001):
            return [-22]
        if v == 0:
            return [-33]
        up = self.up[v]
        before = self.joined[v][up]
        self.joined[v][up] = n
        self.joined[up][v] = n
        return [before]

    def vote(self, v):
        if v not in self.joined:
            return [-2]
        if len(self.voters) == 11:
            return [-28]
        self.voters = self.voters + [v]
        return [len(self.voters) - 1]

    def move(self, i, v):
        if i >= len(self.voters) or v not in self.joined:
            return [-2]
        before = self.voters[i]
        self.voters = self.telling(i, v)
        return [before]

    def away(self, i):
        if i >= len(self.voters):
            return [-2]
        self.voters = self.voters[:i] + self.voters[i + 1:]
        return [len(self.voters)]

    def chosen(self):
        if not self.voters:
            return [-6]
        place = self.chosen_by(self.voters)
        return [place, sum(self.far(place, home) for home in self.voters)]

    def rather(self, v, w):
        if v not in self.joined or w not in self.joined:
            return [-2]
        return [self.count_rather(v, w), self.count_rather(w, v)]

    def unbeaten(self):
        return self.told_as_set([v for v in self.joined if not self.beaters(v)])

    def beaten(self, v):
        if v not in self.joined:
            return [-2]
        return self.told_as_set(self.beaters(v))

    def row(self, n, count, *places):
        if n not in range(1, 6):
            return [-22]
        if any(v not in self.joined for v in places[:n]):
            return [-2]
        stands = places[0]
        for k in range(1, n):
            if self.beats(places[k], stands):
                stands = places[k]
        return [stands]

    def lie(self, i, v):
        if i >= len(self.voters) or v not in self.joined:
            return [-2]
        place = self.chosen_by(self.telling(i, v))
        return [place, self.far(place, self.voters[i])]

    def best(self, i):
        if i >= len(self.voters):
            return [-2]
        home = self.voters[i]
        could_be = [self.far(home, self.chosen_by(self.telling(i, v))) for v in self.joined]
        return [min(could_be), self.far(home, self.chosen_by(self.voters))]

    def both(self, i, j, v, w):
        if i >= len(self.voters) or j >= len(self.voters) or v not in self.joined or w not in self.joined:
            return [-2]
        if i == j:
            return [-22]
        instead = {i: v, j: w}
        place = self.chosen_by([instead.get(k, home) for k, home in enumerate(self.voters)])
        return [place, self.far(self.voters[i], place), self.far(self.voters[j], place)]

    def sways(self, i):
        if i >= len(self.voters):
            return [-2]
        return self.told_as_set({self.chosen_by(self.telling(i, v)) for v in self.joined})

    def with_one_more(self, v):
        if v not in self.joined:
            return [-2]
        return [self.chosen_by(self.voters + [v])]

    def nearer(self, v):
        if v not in self.joined:
            return [-2]
        return [self.count_rather(v, self.chosen_by(self.voters))]

    def far_from_voter(self, i):
        if i >= len(self.voters):
            return [-2]
        return [self.far(self.chosen_by(self.voters), self.voters[i])]

    def total(self, v):
        if v not in self.joined:
            return [-2]
        return [sum(self.far(v, home) for home in self.voters)]

    def who(self, v):
        if v not in self.joined:
            return [-2]
        return self.told_as_set([i for i, home in enumerate(self.voters) if home == v])

    def look(self, i):
        if i >= len(self.voters):
            return [-2]
        return [self.voters[i]]

    def place(self, v):
        if v not in self.joined:
            return [-2]
        if v == 0:
            return [0, 0]
        return [self.up[v], self.joined[v][self.up[v]]]

    def sums(self):
        return [len(self.voters), sum(self.joined[v][self.up[v]] for v in self.up)]

    def back(self):
        if self.can_go_back == 0:
            return [-2]
        self.undone.append(self.done.pop())
        self.can_go_back -= 1
        self.make_of_changes()
        return [self.can_go_back]

    def again(self):
        if not self.undone:
            return [-2]
        self.done.append(self.undone.pop())
        self.can_go_back += 1
        self.make_of_changes()
        return [len(self.undone)]

    def state(self):
        return [len(self.joined), self.can_go_back, len(self.undone)]

    def telling(self, i, v):
        return self.voters[:i] + [v] + self.voters[i + 1:]

    def way(self, v, w):
        """The one way from v to w, both among its villages; it stays, whatever is built later."""
        if (v, w) not in self.ways:
            self.ways[v, w] = self.look_for_way(v, w)
        return self.ways[v, w]

    def look_for_way(self, v, w):
        ways = [[v]]
        while ways:
            way = ways.pop()
            if way[-1] == w:
                return way
            ways.extend(way + [beside] for beside in self.joined[way[-1]] if beside not in way)
        raise ValueError(f"no way from {v} to {w}")

    def far(self, v, w):
        way = self.way(v, w)
        return sum(self.joined[a][b] for a, b in zip(way, way[1:]))

    def branch(self, v, beside):
        return [w for w in self.joined if w != v and beside in self.way(w, v)]

    def chosen_by(self, voters):
        votes = voters + [0] if len(voters) % 2 == 0 else voters
        places = [v for v in self.joined if self.no_branch_has_half(v, votes)]
        if len(places) != 1:
            raise ValueError(f"there's not just one: {places}")
        return places[0]

    def no_branch_has_half(self, v, votes):
        branches = [self.branch(v, beside) for beside in self.joined[v]]
        return all(2 * len([w for w in votes if w in branch]) <= len(votes) for branch in branches)

    def count_rather(self, v, w):
        return len([home for home in self.voters if self.far(home, v) < self.far(home, w)])

    def beats(self, v, w):
        return self.count_rather(v, w) > self.count_rather(w, v)

    def beaters(self, v):
        return [w for w in self.joined if self.beats(w, v)]

    def told_as_set(self, members):
        return [len(members), sum(2 ** k for k in members)]

    def call(self, call):
        calls = [self.start, self.village, self.road, self.vote, self.move, self.away, self.chosen,
                 self.rather, self.unbeaten, self.beaten, self.row, self.lie, self.best, self.both,
                 self.sways, self.with_one_more, self.nearer, self.far_from_voter, self.total, self.who,
                 self.look, self.place, self.sums, self.back, self.again, self.state]
        return calls[call[0]](*call[1:])

    def answer(self, call):
        answer = self.call(call)
        if call[0] in (1, 2, 3, 4, 5) and answer[0] >= 0:
            self.done.append(call)
            self.undone = []
            self.can_go_back = min(20, self.can_go_back + 1)
        return answer
