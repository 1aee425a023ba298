"""What the tests share: the calls as lists, their answers taken apart, some nights."""

from coconutheaps.heaps import answers

TOP = 4294967295


def night():
    return [0]


def share(p, r, t):
    return [1, p, r, t]


def undo():
    return [2]


def sailors(n):
    return [3, n]


def goes(x):
    return [4, x]


def gets(x):
    return [5, x]


def least(x):
    return [6, x]


def every():
    return [7]


def count(x):
    return [8, x]


def richest(x, i):
    return [9, x, i]


def back(y):
    return [10, y]


def last(m):
    return [11, m]


def in_one_list(calls):
    return [number for call in calls for number in call]


def taken_apart(answered):
    parts = []
    place = 0
    while place < len(answered):
        behind = place + 1 + answered[place]
        if answered[place] < 1 or behind > len(answered):
            raise AssertionError(f"no list of answers: {answered}")
        parts.append(answered[place + 1:behind])
        place = behind
    return parts


def ask(*calls):
    """The answer of each call, all of them asked in one list."""
    parts = taken_apart(answers(in_one_list(calls)))
    if len(parts) != len(calls):
        raise AssertionError(f"{len(calls)} calls, {len(parts)} answers")
    return parts


def ask_last(*calls):
    return ask(*calls)[-1]


# Each share of these leaves one part of its parts, so what is over of one
# after another are the digits of the heap, the lowest first.
DIGITS = [(2, 1), (3, 2), (4, 0), (5, 3), (6, 5), (7, 0), (8, 7), (9, 4), (2, 0), (3, 1)]

# The nights that every call is asked of: how they are told, the least heap
# with which they go, their step.
NIGHTS = {
    "no shares": ([], 0, 1),
    "one share": ([share(7, 3, 2)], 3, 7),
    "one share, 0 over": ([share(7, 0, 2)], 0, 7),
    "ten shares": (
        [share(p, r, p - 1) for p, r in DIGITS],
        1 + 2 * (2 + 3 * (0 + 4 * (3 + 5 * (5 + 6 * (0 + 7 * (7 + 8 * (4 + 9 * (0 + 2 * 1)))))))),
        2 * 3 * 4 * 5 * 6 * 7 * 8 * 9 * 2 * 3),
    # With 64 more each share takes a ninth, and nothing is over.
    "ten of 9 parts": ([share(9, 8, 1)] * 10, 9 ** 10 - 64, 9 ** 10),
    "all taken first": ([share(5, 2, 5)], 2, 5),
    "all taken first, 0 over behind": ([share(5, 2, 5), share(3, 0, 1)], 2, 5),
    # 4 * 4 + 1 = 17; 3 * 4 = 12 = 5 * 2 + 2.
    "all taken in the middle, 0 over behind": ([share(4, 1, 1), share(5, 2, 5), share(3, 0, 2)], 17, 20),
    "all taken last": ([share(4, 1, 1), share(5, 2, 5)], 17, 20),
    # What the first leaves is even, so the second goes with all of it.
    "a share that always goes": ([share(4, 0, 2), share(2, 0, 1)], 0, 4),
    # 6 * 1 + 5 = 11, 4 * 1 = 4; of 4, 8, 12, .. every second one leaves 4 of 8.
    "a share that goes with each second heap": ([share(6, 5, 2), share(8, 4, 3)], 11, 12),
}
# The known puzzle: with n - 1 more each sailor takes one part, and nothing is over.
NIGHTS.update({f"sailors {n}": ([sailors(n)], n ** (n + 1) - n + 1, n ** (n + 1)) for n in range(2, 10)})

# Nights that go with no heap, some of them with a share of which all is taken.
NO_HEAP_NIGHTS = {
    "odd behind even": [share(4, 0, 2), share(2, 1, 1)],
    "odd behind even, last of three": [share(3, 1, 1), share(4, 0, 2), share(2, 1, 1)],
    "all taken first, more over behind": [share(5, 2, 5), share(3, 1, 1)],
    "all taken in the middle, more over behind": [share(4, 1, 1), share(5, 2, 5), share(3, 2, 2)],
    "all taken last, behind what does not go": [share(4, 0, 2), share(2, 1, 2)],
    "sailors, then a share": [sailors(4), share(9, 8, 1)],
}
