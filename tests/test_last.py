import unittest

from tests.asking import NIGHTS, NO_HEAP_NIGHTS, TOP, ask, ask_last, gets, last, share


def told(*numbers):
    return [len(numbers), *numbers]


class LastAnswers(unittest.TestCase):
    def test_with_no_shares_every_number(self):
        for m in range(1, 21):
            self.assertEqual(ask(last(m)), [told(*range(m))], m)

    def test_divided_by_1(self):
        for name, (calls, _, _) in NIGHTS.items():
            self.assertEqual(ask_last(*calls, last(1)), [1, 0], name)

    def test_what_is_left_is_always_0(self):
        names = [name for name in NIGHTS if name.startswith(("all taken", "sailors"))]
        self.assertEqual(len(names), 12)
        for name in names:
            for m in range(1, 21):
                self.assertEqual(ask_last(*NIGHTS[name][0], last(m)), [1, 0], (name, m))

    def test_one_share(self):
        # 5 parts of 7 are left: 0, 5, 10, 15, ..
        for calls in (NIGHTS["one share"][0], NIGHTS["one share, 0 over"][0]):
            self.assertEqual(ask_last(*calls, last(5)), [1, 0])
            self.assertEqual(ask_last(*calls, last(10)), [2, 0, 5])
            self.assertEqual(ask_last(*calls, last(15)), [3, 0, 5, 10])
            self.assertEqual(ask_last(*calls, last(20)), [4, 0, 5, 10, 15])
            for m in (2, 3, 4, 6, 7, 8, 9, 11, 12, 13, 14, 16, 17, 18, 19):
                self.assertEqual(ask_last(*calls, last(m)), told(*range(m)), m)

    def test_where_0_is_not_among_them(self):
        # 2 are left of 17, 5 of 37, 8 of 57, ..
        shares = [share(4, 1, 1), share(5, 2, 4)]
        self.assertEqual(ask(*shares, gets(17), gets(37))[2:], [[3, 4, 8, 2], [3, 9, 20, 5]])
        self.assertEqual(ask_last(*shares, last(3)), [1, 2])
        self.assertEqual(ask_last(*shares, last(6)), [2, 2, 5])
        self.assertEqual(ask_last(*shares, last(12)), [4, 2, 5, 8, 11])
        self.assertEqual(ask_last(*shares, last(18)), [6, 2, 5, 8, 11, 14, 17])
        self.assertEqual(ask_last(*shares, last(20)), told(*range(20)))

    def test_shares_that_go_with_more_heaps(self):
        # 0, 1, 2, .. are left with the one; 0, 5, 10, .. with the other.
        self.assertEqual(ask_last(*NIGHTS["a share that always goes"][0], last(20)), told(*range(20)))
        self.assertEqual(ask_last(*NIGHTS["a share that goes with each second heap"][0], last(20)), [4, 0, 5, 10, 15])

    def test_ten_shares(self):
        for m in (2, 19, 20):
            self.assertEqual(ask_last(*NIGHTS["ten shares"][0], last(m)), told(*range(m)), m)

    def test_ten_of_9_parts(self):
        # k * 8 ** 10 - 64 are left, for every k from 1 on.
        calls = NIGHTS["ten of 9 parts"][0]
        self.assertEqual(ask_last(*calls, last(16)), [1, 0])
        self.assertEqual(ask_last(*calls, last(12)), [3, 0, 4, 8])
        self.assertEqual(ask_last(*calls, last(20)), [5, 0, 4, 8, 12, 16])
        self.assertEqual(ask_last(*calls, last(14)), [7, 0, 2, 4, 6, 8, 10, 12])
        self.assertEqual(ask_last(*calls, last(9)), told(*range(9)))

    def test_a_wrong_divisor(self):
        for name, (calls, _, _) in NIGHTS.items():
            for m in (0, 21, 22, TOP):
                self.assertEqual(ask_last(*calls, last(m)), [-1], (name, m))

    def test_with_no_heap(self):
        for name, calls in NO_HEAP_NIGHTS.items():
            for m in (1, 2, 20):
                self.assertEqual(ask_last(*calls, last(m)), [-6], (name, m))

    def test_of_several_refusals_the_one_told_first(self):
        for name, calls in NO_HEAP_NIGHTS.items():
            for m in (0, 21, TOP):
                self.assertEqual(ask_last(*calls, last(m)), [-1], (name, m))

    def test_it_changes_nothing(self):
        # With both shares 8, 20, 32, .. are left.
        self.assertEqual(
            ask(last(2), share(4, 3, 1), last(6), last(0), share(7, 1, 3), last(8), gets(23), share(6, 5, 1),
                last(2), last(21), share(2, 0, 1)),
            [[2, 0, 1], [1], [2, 0, 3], [-1], [2], [2, 0, 4], [4, 5, 6, 8], [3], [-6], [-1], [4]])


if __name__ == "__main__":
    unittest.main()
