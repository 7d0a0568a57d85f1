"""The valley: its villages and roads, what its voters tell, and what follows from that."""

MOST_VILLAGES = 12
MOST_VOTERS = 11
LONGEST_ROAD = 1000
MOST_TAKEN_BACK = 20


class Valley:
    def __init__(self):
        self.begin()

    def begin(self):
        # Village 0 has neither an up nor a road: 0 holds its place in both lists,
        # so that the same number finds a village in each.
        self.ups = [0]
        self.roads = [0]
        self.told = []
        self.to_take_back = []
        self.to_do_again = []

    def has_village(self, v):
        return v < len(self.ups)

    def has_voter(self, i):
        return i < len(self.told)

    # Copies, so that what changes later leaves what was kept alone.
    def state(self):
        return (tuple(self.ups), tuple(self.roads), tuple(self.told))

    def restore(self, kept):
        self.ups = list(kept[0])
        self.roads = list(kept[1])
        self.told = list(kept[2])

    def keep_for_taking_back(self):
        self.to_take_back.append(self.state())
        if len(self.to_take_back) > MOST_TAKEN_BACK:
            self.to_take_back.pop(0)
        self.to_do_again.clear()

    def take_back(self):
        self.to_do_again.append(self.state())
        self.restore(self.to_take_back.pop())
        return len(self.to_take_back)

    # What is done again had been taken back, so there is room for it among the last 20.
    def do_again(self):
        self.to_take_back.append(self.state())
        self.restore(self.to_do_again.pop())
        return len(self.to_do_again)

    def add_village(self, up, far):
        self.keep_for_taking_back()
        self.ups.append(up)
        self.roads.append(far)
        return len(self.ups) - 1

    def set_road(self, v, far):
        self.keep_for_taking_back()
        before = self.roads[v]
        self.roads[v] = far
        return before

    def add_voter(self, v):
        self.keep_for_taking_back()
        self.told.append(v)
        return len(self.told) - 1

    def move_voter(self, i, v):
        self.keep_for_taking_back()
        before = self.told[i]
        self.told[i] = v
        return before

    def drop_voter(self, i):
        self.keep_for_taking_back()
        self.told.pop(i)
        return len(self.told)

    def distances(self):
        return distance_table(self.ups, self.roads)

    def distances_from_home(self, i):
        return self.distances()[self.told[i]]

    def chosen(self):
        return chosen_place(self.ups, self.told)

    def chosen_if(self, i, v):
        return chosen_place(self.ups, with_other_told(self.told, i, v))

    def chosen_if_both(self, i, j, v, w):
        told = with_other_told(self.told, i, v)
        return chosen_place(self.ups, with_other_told(told, j, w))

    def chosen_with(self, v):
        return chosen_place(self.ups, self.told + [v])

    def swayed_by(self, i):
        return sorted(set([self.chosen_if(i, v) for v in range(len(self.ups))]))

    def voters_of(self, v):
        return [i for i in range(len(self.told)) if self.told[i] == v]


def is_road_length(far):
    return 1 <= far <= LONGEST_ROAD


def distance_table(ups, roads):
    table = [[0]]
    for v in range(1, len(ups)):
        # All ways from a new village to older ones begin with its road to its up.
        row = [far + roads[v] for far in table[ups[v]]]
        for w in range(v):
            table[w].append(row[w])
        row.append(0)
        table.append(row)
    return table


def with_other_told(told, i, v):
    other = list(told)
    other[i] = v
    return other


def all_votes(told):
    if len(told) % 2 == 0:
        return told + [0]
    return list(told)


# Below a village are it and all whose way to village 0 goes over it.
def votes_below(ups, votes):
    below = [0] * len(ups)
    for v in votes:
        below[v] += 1
    # An up has a smaller number, so from the last to the first each one is whole
    # before it is added to its up.
    for v in range(len(ups) - 1, 0, -1):
        below[ups[v]] += below[v]
    return below


def chosen_place(ups, told):
    votes = all_votes(told)
    below = votes_below(ups, votes)
    place = 0
    # Villages with more than half below them lie on one way down from village 0, and numbers
    # grow along it. The last is the place: each branch further down has no more than half,
    # and the branch up has what is left of more than half.
    for v in range(1, len(ups)):
        if 2 * below[v] > len(votes):
            place = v
    return place


def distance_of_all(table, told, v):
    return sum([table[v][home] for home in told])


def count_rather(table, told, v, w):
    return len([home for home in told if table[home][v] < table[home][w]])


def beats(table, told, v, w):
    return count_rather(table, told, v, w) > count_rather(table, told, w, v)


def places_that_beat(table, told, v):
    return [w for w in range(len(table)) if beats(table, told, w, v)]


def unbeaten_places(table, told):
    return [v for v in range(len(table)) if len(places_that_beat(table, told, v)) == 0]


def left_of_row(table, told, places):
    left = places[0]
    for v in places[1:]:
        if beats(table, told, v, left):
            left = v
    return left
