"""What the tests share: the calls as lists, and their answers taken apart."""

from coconutheaps.heaps import answers

TOP = 4294967295


def night():
    return [0]


def share(p, r, t):
    return [1, p, r, t]


def undo():
    return [2]


def sailors(n):
    return [3, n]


def goes(x):
    return [4, x]


def gets(x):
    return [5, x]


def in_one_list(calls):
    return [number for call in calls for number in call]


def taken_apart(answered):
    parts = []
    place = 0
    while place < len(answered):
        behind = place + 1 + answered[place]
        if answered[place] < 1 or behind > len(answered):
            raise AssertionError(f"no list of answers: {answered}")
        parts.append(answered[place + 1:behind])
        place = behind
    return parts


def ask(*calls):
    """The answer of each call, all of them asked in one list."""
    parts = taken_apart(answers(in_one_list(calls)))
    if len(parts) != len(calls):
        raise AssertionError(f"{len(calls)} calls, {len(parts)} answers")
    return parts


def ask_last(*calls):
    return ask(*calls)[-1]
