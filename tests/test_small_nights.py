"""The six calls beside a plain walk over heap after heap, for every small night."""

import itertools
import math
import unittest

from tests.asking import ask, back, count, every, last, least, richest, share


def all_shares(most_parts):
    return [(p, r, t) for p in range(2, most_parts + 1) for r in range(p) for t in range(1, p + 1)]


def walked(shares, x):
    """What is taken with each share and what is left, or None where one doesn't go."""
    taken = []
    for p, r, t in shares:
        if x % p != r:
            return None
        q = (x - r) // p
        taken.append(t * q)
        x = (p - t) * q
    return taken, x


def heaps_that_go(shares):
    """Twenty heaps at the least, where there are any: enough for every m."""
    period = math.prod(p for p, _, _ in shares)
    found = [(x, walked(shares, x)) for x in range(20 * period)]
    return [(x, *told) for x, told in found if told is not None]


class SmallNights(unittest.TestCase):
    def check(self, shares):
        calls = [share(*told) for told in shares]
        heaps = heaps_that_go(shares)
        self.check_heaps(shares, calls, [x for x, _, _ in heaps])
        self.check_richest(shares, calls, heaps)
        self.check_left(shares, calls, heaps)

    def asked(self, shares, calls, pairs):
        for k in range(0, len(pairs), 30):
            some = pairs[k:k + 30]
            answered = ask(*calls, *[call for call, _ in some])[len(calls):]
            self.assertEqual(answered, [told for _, told in some], (shares, [call for call, _ in some]))

    def check_heaps(self, shares, calls, heaps):
        if not heaps:
            self.asked(shares, calls, [(every(), [-6]), (least(0), [-6]), (least(9), [-6]), (count(99), [0])])
            return
        step = min(b - a for a, b in zip(heaps, heaps[1:]))
        pairs = [(every(), [heaps[0], step]), (least(0), [heaps[0]])]
        for x in [n for heap in heaps[:3] for n in (heap - 1, heap, heap + 1) if n >= 0]:
            pairs.append((least(x), [min(heap for heap in heaps if heap >= x)]))
            pairs.append((count(x), [sum(1 for heap in heaps if heap <= x)]))
        self.asked(shares, calls, pairs)

    def check_richest(self, shares, calls, heaps):
        pairs = [(richest(0, len(shares)), [-1])]
        for i in range(len(shares)):
            if not heaps:
                pairs.append((richest(1, i), [-6]))
            for x in sorted({n for _, taken, _ in heaps[:3] for n in (taken[i] - 1, taken[i], taken[i] + 1) if n >= 0}):
                told = [heap for heap, taken, _ in heaps if taken[i] >= x]
                pairs.append((richest(x, i), [told[0]] if told else [-4]))
        self.asked(shares, calls, pairs)

    def check_left(self, shares, calls, heaps):
        pairs = []
        for y in range(8):
            told = [heap for heap, _, left in heaps if left == y]
            if any(t == p for p, _, t in shares):
                pairs.append((back(y), [-7]))
            else:
                pairs.append((back(y), told or [-6]))
        for m in range(1, 21):
            numbers = sorted({left % m for _, _, left in heaps})
            pairs.append((last(m), [len(numbers), *numbers] if numbers else [-6]))
        self.asked(shares, calls, pairs)

    def test_every_night_of_one_share(self):
        for told in all_shares(9):
            self.check([told])

    def test_every_night_of_two_shares_of_up_to_4_parts(self):
        for shares in itertools.product(all_shares(4), repeat=2):
            self.check(shares)

    def test_every_night_of_three_shares_of_up_to_3_parts(self):
        for shares in itertools.product(all_shares(3), repeat=3):
            self.check(shares)


if __name__ == "__main__":
    unittest.main()
