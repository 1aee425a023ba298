"""What the calls say of one another on one night, long nights among them."""

import math
import unittest

from tests.asking import (
    NIGHTS, NO_HEAP_NIGHTS, TOP, ask, ask_last, back, count, every, gets, goes, last, least, richest, sailors, share,
)

SIX = [least(5), every(), count(TOP), richest(1, 0), back(3), last(7)]


def long_nights(how_many):
    """Nights of 4 to 10 shares, the same ones each time; few of them take all."""
    nights = []
    state = 1
    for k in range(how_many):
        shares = []
        for place in range(4 + k % 7):
            state = (state * 1103515245 + 12345) % 2 ** 31
            mixed = state >> 8
            p = 2 + mixed % 8
            r = mixed // 8 % p
            t = 1 + mixed // 72 % (p if mixed % 11 == 0 else p - 1)
            shares.append((p, r, t))
        nights.append(shares)
    return nights


def row_from_the_end(shares):
    """The least heap and the step, found from the last share to the first.

    Where the heaps behind a share are to be first, first + step, .., its part
    q must fit (p - t) * q; so this goes the other way than the program does.
    """
    first, step = 0, 1
    for p, r, t in reversed(shares):
        kept = p - t
        if kept == 0:
            if first != 0:
                return None
            first, step = r, p
            continue
        common = math.gcd(kept, step)
        if first % common != 0:
            return None
        step //= common
        q = first // common * pow(kept // common, -1, step) % step
        while kept * q < first:
            q += step
        first, step = p * q + r, p * step
    return first, step


class CallsTogether(unittest.TestCase):
    def check(self, name, calls, first, step):
        how_many = len(ask_last(*calls, gets(first))) - 2
        for k in range(3):
            heap = first + k * step
            if heap > TOP:
                return
            next_heap = heap + step
            went, got = ask(*calls, goes(heap), gets(heap))[-2:]
            self.assertEqual((went[0], len(got), sum(got)), (how_many, how_many + 2, heap), (name, heap))
            self.assertEqual(ask(*calls, least(heap), count(heap))[-2:], [[heap], [k + 1]], (name, heap))
            if heap > 0:
                self.assertEqual(ask(*calls, least(heap - (step > 1)), count(heap - 1))[-2:], [[heap], [k]], (name, heap))
            if heap < TOP:
                self.assertEqual(ask_last(*calls, least(heap + 1)), [next_heap], (name, heap))
            self.check_what_is_got(name, calls, heap, next_heap, got)

    def check_what_is_got(self, name, calls, heap, next_heap, got):
        left = got[-1]
        self.assertIn(ask_last(*calls, back(left)), ([heap], [-7]), (name, heap))
        for m in (1, 7, 20):
            self.assertIn(left % m, ask_last(*calls, last(m))[1:], (name, heap, m))
        for i, taken in enumerate(got[1:-1]):
            just, more = ask(*calls, richest(taken, i), richest(taken + 1, i))[-2:]
            # Behind a share of which all is taken, each heap has 0.
            if more == [-4]:
                self.assertEqual((taken, just), (0, ask_last(*calls, least(0))), (name, heap, i))
            else:
                self.assertEqual((just, more), ([heap], [next_heap]), (name, heap, i))

    def test_the_nights_that_every_call_is_asked_of(self):
        for name, (calls, _, _) in NIGHTS.items():
            first, step = ask_last(*calls, every())
            self.check(name, calls, first, step)

    def test_all_heaps_of_a_night_one_by_one(self):
        shares = [share(3, 2, 2), share(2, 0, 1), share(4, 1, 2)]
        first, step = ask_last(*shares, every())
        counted = 0
        for x in range(300):
            went, number, heap = ask(*shares, goes(x), count(x), least(x))[3:]
            if went[0] == 3:
                counted += 1
            self.assertEqual((went[0] == 3, heap == [x]), ((x - first) % step == 0,) * 2, x)
            self.assertEqual(number, [counted], x)
        self.assertEqual(counted, 13)

    def test_long_nights_from_the_end(self):
        nights = long_nights(700)
        found = 0
        for shares in nights:
            calls = [share(*told) for told in shares]
            row = row_from_the_end(shares)
            self.assertEqual(ask_last(*calls, every()), [-6] if row is None else list(row), shares)
            if row is None:
                self.assertEqual(ask(*calls, least(TOP), count(TOP), last(20))[-3:], [[-6], [0], [-6]], shares)
            else:
                found += 1
                self.check(shares, calls, *row)
        # Both sorts of night are among them, and some of ten shares that go.
        self.assertTrue(100 < found < 600, found)
        self.assertTrue(any(len(shares) == 10 and row_from_the_end(shares) for shares in nights))

    def test_nights_that_always_go(self):
        # One part is left of each, so every heap behind is there.
        for shares in long_nights(100):
            shares = [(p, r, p - 1) for p, r, _ in shares]
            calls = [share(*told) for told in shares]
            first, step = row_from_the_end(shares)
            self.assertEqual(step, math.prod(p for p, _, _ in shares))
            self.assertEqual(ask(*calls, every(), back(0), back(TOP))[-3:],
                             [[first, step], [first], [first + TOP * step]], shares)
            self.check(shares, calls, first, step)

    def test_none_of_the_six_changes_the_night(self):
        nights = [calls for calls, _, _ in NIGHTS.values()] + list(NO_HEAP_NIGHTS.values())
        for calls in nights:
            first = ask_last(*calls, every())[0]
            x = max(first, 0)
            alone = [ask_last(*calls, call) for call in SIX + [goes(x), gets(x)]]
            twice = ask(*calls, *SIX, goes(x), gets(x), *SIX, goes(x), gets(x))[len(calls):]
            self.assertEqual(twice, alone + alone, calls)

    def test_refusals_change_nothing(self):
        refused = [richest(0, 3), last(0), last(21), back(1), richest(1, 2)]
        shares = [share(4, 1, 1), share(5, 2, 5), share(3, 0, 2)]
        answered = ask(*shares, *refused, gets(17), every(), share(2, 1, 1), *SIX, gets(17))
        self.assertEqual(answered[3:8], [[-1], [-1], [-1], [-7], [-4]])
        self.assertEqual(answered[8:11], [[3, 4, 10, 0, 0], [17, 20], [4]])
        self.assertEqual(answered[11:], [[-6], [-6], [0], [-6], [-7], [-6], [-3]])

    def test_the_calls_follow_the_night(self):
        # The same calls, asked anew behind each change of the night.
        self.assertEqual(
            ask(every(), share(4, 3, 1), every(), share(7, 1, 3), every(), [2], every(), sailors(2), every(),
                [0], every(), sailors(11), every()),
            [[0, 1], [1], [3, 4], [2], [23, 28], [1], [3, 4], [3], [7, 8], [0], [0, 1], [-1], [0, 1]])


if __name__ == "__main__":
    unittest.main()
