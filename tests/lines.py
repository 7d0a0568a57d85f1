"""Writes calls as the interface has them, and takes the answers apart again, call by call."""

from roadvotes.roads import answers

LARGEST = 4294967295


def start():
    return [0]


def village(up, far):
    return [1, up, far]


def road(v, n):
    return [2, v, n]


def vote(v):
    return [3, v]


def move(i, v):
    return [4, i, v]


def away(i):
    return [5, i]


def chosen():
    return [6]


def rather(v, w):
    return [7, v, w]


def unbeaten():
    return [8]


def beaten(v):
    return [9, v]


def row(n, *places):
    """Places that are not told are far too large, so that it shows if one of them is looked at."""
    filled = list(places) + [LARGEST] * (5 - len(places))
    return [10, n, 5] + filled


def lie(i, v):
    return [11, i, v]


def best(i):
    return [12, i]


def both(i, j, v, w):
    return [13, i, j, v, w]


def sways(i):
    return [14, i]


def with_one_more(v):
    return [15, v]


def nearer(v):
    return [16, v]


def far(i):
    return [17, i]


def total(v):
    return [18, v]


def who(v):
    return [19, v]


def look(i):
    return [20, i]


def place(v):
    return [21, v]


def sums():
    return [22]


def back():
    return [23]


def again():
    return [24]


def state():
    return [25]


def flat(calls):
    return [number for call in calls for number in call]


def apart(numbers):
    parts = []
    at = 0
    while at < len(numbers):
        count = numbers[at]
        part = numbers[at + 1:at + 1 + count]
        if count < 1 or len(part) != count:
            raise ValueError(f"no whole answer at {at} of {numbers}")
        parts.append(part)
        at += 1 + count
    return parts


def ask(*calls):
    """The answers to a line that begins with a vo_start, without that one's answer."""
    line = flat([start(), *calls])
    if len(calls) > 999 or len(line) > 8100:
        raise ValueError(f"such a line is not handed in: {len(calls)} calls, {len(line)} numbers")
    parts = apart(answers(line))
    if parts[0] != [0] or len(parts) != len(calls) + 1:
        raise ValueError(f"{len(calls)} calls behind a vo_start were answered by {parts}")
    return parts[1:]


def last(*calls):
    return ask(*calls)[-1]


def ask_behind(before, *calls):
    """The answers to calls alone, in a valley that the calls of before have made."""
    return ask(*before, *calls)[len(before):]


def everything(villages, voters):
    """Questions that together show all of a valley: its ways, its votes, what is chosen."""
    calls = [chosen(), unbeaten(), sums()]
    for v in range(villages):
        calls.extend([beaten(v), with_one_more(v), nearer(v), total(v), who(v), place(v)])
        calls.extend(rather(v, w) for w in range(villages))
    for i in range(voters):
        calls.extend([best(i), sways(i), far(i), look(i)])
        calls.extend(lie(i, v) for v in range(villages))
        calls.extend(both(i, j, j % villages, i % villages) for j in range(voters))
    # One past the last: that no village and no voter more is there.
    calls.extend([place(villages), look(voters)])
    return calls
