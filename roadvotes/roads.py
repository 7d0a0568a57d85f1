"""The calls on one valley, read from one list of whole numbers and answered in another."""

from roadvotes.valley import Valley, is_road_length, MOST_VILLAGES, MOST_VOTERS
from roadvotes.valley import count_rather, distance_of_all, left_of_row, places_that_beat, unbeaten_places

NOT_THERE = -2
NO_VOTERS = -6
OUT_OF_RANGE = -22
FULL = -28
NO_ROAD = -33

LONGEST_ROW = 5


def as_bits(members):
    bits = 0
    for k in members:
        bits = bits | (1 << k)
    return bits


def count_and_bits(members):
    return [len(members), as_bits(members)]


def vo_start(valley, numbers):
    valley.begin()
    return [0]


def vo_village(valley, numbers):
    up = numbers[0]
    far = numbers[1]
    if not valley.has_village(up):
        return [NOT_THERE]
    if not is_road_length(far):
        return [OUT_OF_RANGE]
    if len(valley.ups) >= MOST_VILLAGES:
        return [FULL]
    return [valley.add_village(up, far)]


def vo_road(valley, numbers):
    v = numbers[0]
    far = numbers[1]
    if not valley.has_village(v):
        return [NOT_THERE]
    if not is_road_length(far):
        return [OUT_OF_RANGE]
    if v == 0:
        return [NO_ROAD]
    return [valley.set_road(v, far)]


def vo_vote(valley, numbers):
    v = numbers[0]
    if not valley.has_village(v):
        return [NOT_THERE]
    if len(valley.told) >= MOST_VOTERS:
        return [FULL]
    return [valley.add_voter(v)]


def vo_move(valley, numbers):
    i = numbers[0]
    v = numbers[1]
    if not valley.has_voter(i) or not valley.has_village(v):
        return [NOT_THERE]
    return [valley.move_voter(i, v)]


def vo_away(valley, numbers):
    i = numbers[0]
    if not valley.has_voter(i):
        return [NOT_THERE]
    return [valley.drop_voter(i)]


def vo_chosen(valley, numbers):
    if len(valley.told) == 0:
        return [NO_VOTERS]
    place = valley.chosen()
    return [place, distance_of_all(valley.distances(), valley.told, place)]


def vo_rather(valley, numbers):
    v = numbers[0]
    w = numbers[1]
    if not valley.has_village(v) or not valley.has_village(w):
        return [NOT_THERE]
    table = valley.distances()
    return [count_rather(table, valley.told, v, w), count_rather(table, valley.told, w, v)]


def vo_unbeaten(valley, numbers):
    return count_and_bits(unbeaten_places(valley.distances(), valley.told))


def vo_beaten(valley, numbers):
    v = numbers[0]
    if not valley.has_village(v):
        return [NOT_THERE]
    return count_and_bits(places_that_beat(valley.distances(), valley.told, v))


def vo_row(valley, numbers):
    n = numbers[0]
    if n < 1 or n > LONGEST_ROW:
        return [OUT_OF_RANGE]
    # Behind n stands how many places are handed in; the places themselves begin behind that.
    places = numbers[2:2 + n]
    for v in places:
        if not valley.has_village(v):
            return [NOT_THERE]
    return [left_of_row(valley.distances(), valley.told, places)]


def vo_lie(valley, numbers):
    i = numbers[0]
    v = numbers[1]
    if not valley.has_voter(i) or not valley.has_village(v):
        return [NOT_THERE]
    place = valley.chosen_if(i, v)
    return [place, valley.distances_from_home(i)[place]]


def vo_best(valley, numbers):
    i = numbers[0]
    if not valley.has_voter(i):
        return [NOT_THERE]
    from_home = valley.distances_from_home(i)
    least = min([from_home[place] for place in valley.swayed_by(i)])
    return [least, from_home[valley.chosen()]]


def vo_both(valley, numbers):
    i = numbers[0]
    j = numbers[1]
    v = numbers[2]
    w = numbers[3]
    if not valley.has_voter(i) or not valley.has_voter(j):
        return [NOT_THERE]
    if not valley.has_village(v) or not valley.has_village(w):
        return [NOT_THERE]
    if i == j:
        return [OUT_OF_RANGE]
    place = valley.chosen_if_both(i, j, v, w)
    return [place, valley.distances_from_home(i)[place], valley.distances_from_home(j)[place]]


def vo_sways(valley, numbers):
    i = numbers[0]
    if not valley.has_voter(i):
        return [NOT_THERE]
    return count_and_bits(valley.swayed_by(i))


def vo_with(valley, numbers):
    v = numbers[0]
    if not valley.has_village(v):
        return [NOT_THERE]
    return [valley.chosen_with(v)]


def vo_nearer(valley, numbers):
    v = numbers[0]
    if not valley.has_village(v):
        return [NOT_THERE]
    return [count_rather(valley.distances(), valley.told, v, valley.chosen())]


def vo_far(valley, numbers):
    i = numbers[0]
    if not valley.has_voter(i):
        return [NOT_THERE]
    return [valley.distances_from_home(i)[valley.chosen()]]


def vo_total(valley, numbers):
    v = numbers[0]
    if not valley.has_village(v):
        return [NOT_THERE]
    return [distance_of_all(valley.distances(), valley.told, v)]


def vo_who(valley, numbers):
    v = numbers[0]
    if not valley.has_village(v):
        return [NOT_THERE]
    return count_and_bits(valley.voters_of(v))


def vo_look(valley, numbers):
    i = numbers[0]
    if not valley.has_voter(i):
        return [NOT_THERE]
    return [valley.told[i]]


def vo_place(valley, numbers):
    v = numbers[0]
    if not valley.has_village(v):
        return [NOT_THERE]
    return [valley.ups[v], valley.roads[v]]


def vo_sums(valley, numbers):
    return [len(valley.told), sum(valley.roads)]


def vo_back(valley, numbers):
    if len(valley.to_take_back) == 0:
        return [NOT_THERE]
    return [valley.take_back()]


def vo_again(valley, numbers):
    if len(valley.to_do_again) == 0:
        return [NOT_THERE]
    return [valley.do_again()]


def vo_state(valley, numbers):
    return [len(valley.ups), len(valley.to_take_back), len(valley.to_do_again)]


ROW_CALL = 10

CALLS = {
    0: vo_start,
    1: vo_village,
    2: vo_road,
    3: vo_vote,
    4: vo_move,
    5: vo_away,
    6: vo_chosen,
    7: vo_rather,
    8: vo_unbeaten,
    9: vo_beaten,
    10: vo_row,
    11: vo_lie,
    12: vo_best,
    13: vo_both,
    14: vo_sways,
    15: vo_with,
    16: vo_nearer,
    17: vo_far,
    18: vo_total,
    19: vo_who,
    20: vo_look,
    21: vo_place,
    22: vo_sums,
    23: vo_back,
    24: vo_again,
    25: vo_state,
}

# How many whole numbers a call has, its row not among them.
WHOLE_NUMBERS = {
    0: 0,
    1: 2,
    2: 2,
    3: 1,
    4: 2,
    5: 1,
    6: 0,
    7: 2,
    8: 0,
    9: 1,
    10: 1,
    11: 2,
    12: 1,
    13: 4,
    14: 1,
    15: 1,
    16: 1,
    17: 1,
    18: 1,
    19: 1,
    20: 1,
    21: 1,
    22: 0,
    23: 0,
    24: 0,
    25: 0,
}


def end_of_call(calls, at):
    end = at + 1 + WHOLE_NUMBERS[calls[at]]
    if calls[at] == ROW_CALL:
        end += 1 + calls[end]
    return end


def answers(calls):
    valley = Valley()
    answered = []
    at = 0
    while at < len(calls):
        end = end_of_call(calls, at)
        call = CALLS[calls[at]]
        answer = call(valley, calls[at + 1:end])
        answered.append(len(answer))
        answered.extend(answer)
        at = end
    return answered
