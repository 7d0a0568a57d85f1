"""Valleys that several tests start from."""

from tests.lines import village, vote

# 4 -2- 0 -5- 1 -3- 2
#             |
#             4
#             |
#             3
FORK = [village(0, 5), village(1, 3), village(1, 4), village(0, 2)]

FORK_FAR = [
    [0, 5, 8, 9, 2],
    [5, 0, 3, 4, 7],
    [8, 3, 0, 7, 10],
    [9, 4, 7, 0, 11],
    [2, 7, 10, 11, 0],
]

# Voters 0, 1, 2 tell villages 2, 3, 4.
FORK_OF_THREE = FORK + [vote(2), vote(3), vote(4)]

# Voters 0, 1 tell villages 2, 4.
FORK_OF_TWO = FORK + [vote(2), vote(4)]

# Villages 1 to 11, each with a road as long as its number: 1 and 2 at 0, 3 and 4 at 1,
# 5 and 6 at 2, 7 and 8 at 3, 9 and 10 at 4, 11 at 5.
FULL_OF_VILLAGES = [village(v // 2, v + 1) for v in range(11)]

# Voter i tells village i.
FULL_OF_BOTH = FULL_OF_VILLAGES + [vote(v) for v in range(11)]
