import unittest

from tests.asking import NIGHTS, NO_HEAP_NIGHTS, TOP, ask, ask_last, gets, richest, sailors, share

# How many shares each night of the helper has.
HOW_MANY = {name: len(calls) for name, (calls, _, _) in NIGHTS.items()}
HOW_MANY.update({f"sailors {n}": n + 1 for n in range(2, 10)})


class RichestAnswers(unittest.TestCase):
    def test_of_at_least_0_the_least_heap(self):
        for name, (calls, first, _) in NIGHTS.items():
            for i in range(HOW_MANY[name]):
                self.assertEqual(ask_last(*calls, richest(0, i)), [first], (name, i))

    def test_just_what_is_taken_one_less_and_one_more(self):
        for name, (calls, first, step) in NIGHTS.items():
            if first + step > TOP or HOW_MANY[name] == 0:
                continue
            got, more = ask(*calls, gets(first), gets(first + step))[-2:]
            for i in range(HOW_MANY[name]):
                low, high = got[1 + i], more[1 + i]
                if low == high:
                    self.assertEqual(ask_last(*calls, richest(low + 1, i)), [-4], (name, i))
                    continue
                self.assertEqual(
                    ask(*calls, richest(low, i), richest(low + 1, i), richest(high, i), richest(high + 1, i))[-4:],
                    [[first], [first + step], [first + step], [first + 2 * step]], (name, i))
                if low > 0:
                    self.assertEqual(ask_last(*calls, richest(low - 1, i)), [first], (name, i))
                told = first + step if high - 1 > low else first
                self.assertEqual(ask_last(*calls, richest(high - 1, i)), [told], (name, i))

    def test_one_share(self):
        # 2 parts of 7 are taken: 2 of 10, 4 of 17, 6 of 24.
        told = [3, 10, 10, 17, 17, 24]
        self.assertEqual([ask_last(share(7, 3, 2), richest(x, 0))[0] for x in range(6)], told)

    def test_five_sailors(self):
        # Of 15621 the sailors take 3124, 2499, 1999, 1599, 1279, and 5115 are shared out.
        heap, step = 15621, 15625
        for i, taken in enumerate([3124, 2499, 1999, 1599, 1279, 5115]):
            self.assertEqual(ask(sailors(5), richest(taken, i), richest(taken + 1, i))[1:],
                             [[heap], [heap + step]], i)

    def test_the_greatest_x(self):
        self.assertEqual(ask_last(share(2, 1, 2), richest(TOP, 0)), [TOP + 2])
        self.assertEqual(ask_last(share(9, 8, 1), richest(TOP, 0)), [9 * TOP + 8])

    def test_the_greatest_x_of_ten_of_9_parts(self):
        # Of k * 9 ** 10 - 64 the last share takes k * 8 ** 9 - 8, and 32 * 8 ** 9 is TOP + 1.
        shares = [share(9, 8, 1)] * 10
        self.assertEqual(ask(*shares, richest(TOP - 7, 9), richest(TOP - 6, 9), richest(TOP, 9))[10:],
                         [[32 * 9 ** 10 - 64], [33 * 9 ** 10 - 64], [33 * 9 ** 10 - 64]])
        # Of (k + 1) * 9 ** 10 - 1 the last one of these takes 8 * k.
        shares = [share(9, 8, 8)] * 10
        self.assertEqual(ask_last(*shares, richest(TOP, 9)), [(2 ** 29 + 1) * 9 ** 10 - 1])

    def test_no_such_share(self):
        for name, (calls, _, _) in NIGHTS.items():
            for i in (HOW_MANY[name], HOW_MANY[name] + 1, TOP):
                for x in (0, 1, TOP):
                    self.assertEqual(ask_last(*calls, richest(x, i)), [-1], (name, x, i))

    def test_with_no_heap(self):
        for name, calls in NO_HEAP_NIGHTS.items():
            for x in (0, 1, TOP):
                for i in (0, 1):
                    self.assertEqual(ask_last(*calls, richest(x, i)), [-6], (name, x, i))

    def test_behind_a_share_of_which_all_is_taken(self):
        first = [share(5, 2, 5), share(3, 0, 1), share(2, 0, 2)]
        for i in (1, 2):
            self.assertEqual(ask(*first, richest(0, i), richest(1, i), richest(TOP, i))[3:], [[2], [-4], [-4]], i)
        middle = NIGHTS["all taken in the middle, 0 over behind"][0]
        self.assertEqual(ask(*middle, richest(0, 2), richest(1, 2), richest(TOP, 2))[3:], [[17], [-4], [-4]])

    def test_the_share_of_which_all_is_taken_and_those_ahead_of_it(self):
        # Of 17 first 4 are taken, then 10; of 37 first 9, then 25.
        middle = NIGHTS["all taken in the middle, 0 over behind"][0]
        self.assertEqual(ask(*middle, richest(4, 0), richest(5, 0), richest(9, 0), richest(10, 0))[3:],
                         [[17], [37], [37], [57]])
        self.assertEqual(ask(*middle, richest(10, 1), richest(11, 1), richest(25, 1), richest(26, 1))[3:],
                         [[17], [37], [37], [57]])

    def test_of_several_refusals_the_one_told_first(self):
        no_heap = [share(5, 2, 5), share(3, 1, 1)]
        # No such share, and no heap; no heap, and never so much.
        self.assertEqual(ask(*no_heap, richest(1, 2), richest(0, TOP), richest(1, 1), richest(TOP, 0))[2:],
                         [[-1], [-1], [-6], [-6]])
        # No such share, and behind the last one would be nothing to take.
        self.assertEqual(ask_last(share(5, 2, 5), richest(1, 1)), [-1])

    def test_it_changes_nothing(self):
        self.assertEqual(
            ask(richest(0, 0), share(5, 2, 5), richest(6, 0), richest(0, 1), share(3, 0, 1), richest(1, 1),
                gets(12), share(3, 2, 1), richest(0, 0), share(2, 1, 1)),
            [[-1], [1], [12], [-1], [2], [-4], [2, 10, 0, 0], [3], [-6], [4]])


if __name__ == "__main__":
    unittest.main()
