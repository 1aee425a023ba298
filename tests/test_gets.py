import unittest

from tests.asking import TOP, ask, ask_last, gets, goes, share


class GetsAnswers(unittest.TestCase):
    def test_with_no_shares_all_are_left(self):
        for x in (0, 1, 12, TOP):
            self.assertEqual(ask(gets(x)), [[0, x]], x)

    def test_where_all_go(self):
        # 23 = 4 * 5 + 3, 15 are left; 15 = 7 * 2 + 1, 4 parts are 8.
        self.assertEqual(ask_last(share(4, 3, 1), share(7, 1, 3), gets(23)), [4, 5, 6, 8])

    def test_where_the_first_does_not_go(self):
        self.assertEqual(ask_last(share(4, 2, 1), share(7, 1, 3), gets(23)), [-3])

    def test_where_only_the_last_does_not_go(self):
        self.assertEqual(ask_last(share(4, 3, 1), share(7, 2, 3), gets(23)), [-3])
        self.assertEqual(ask_last(share(4, 3, 1), share(7, 1, 3), share(2, 1, 1), gets(23)), [-3])

    def test_where_one_between_does_not_go(self):
        self.assertEqual(ask_last(share(4, 3, 1), share(7, 2, 3), share(3, 0, 1), gets(23)), [-3])

    def test_behind_a_share_of_which_all_is_taken(self):
        self.assertEqual(ask_last(share(5, 2, 5), gets(12)), [2, 10, 0])
        self.assertEqual(ask_last(share(5, 2, 5), share(3, 0, 1), gets(12)), [2, 10, 0, 0])
        self.assertEqual(ask_last(share(5, 2, 5), share(3, 1, 1), gets(12)), [-3])

    def test_the_heap_0(self):
        self.assertEqual(ask_last(share(2, 0, 1), share(9, 0, 9), gets(0)), [0, 0, 0, 0])
        self.assertEqual(ask_last(share(2, 1, 1), gets(0)), [-3])
        self.assertEqual(ask_last(share(2, 0, 1), share(9, 8, 9), gets(0)), [-3])

    def test_a_heap_of_just_what_is_over(self):
        self.assertEqual(ask_last(share(9, 8, 1), gets(8)), [8, 0, 0])
        self.assertEqual(ask_last(share(9, 8, 1), gets(7)), [-3])

    def test_the_greatest_heap(self):
        taken = [TOP >> k for k in range(1, 11)]
        self.assertEqual(ask_last(*[share(2, 1, 1)] * 10, gets(TOP)), [10] + taken + [taken[-1]])
        self.assertEqual(ask_last(share(2, 0, 1), gets(TOP)), [-3])

    def test_each_share_takes_its_parts(self):
        for p in range(2, 10):
            for r in range(p):
                for t in range(1, p + 1):
                    told = [r, 7 * t, 7 * (p - t)]
                    self.assertEqual(ask_last(share(p, r, t), gets(7 * p + r)), told, (p, r, t))

    def test_beside_goes_over_many_heaps(self):
        shares = [share(3, 2, 2), share(2, 0, 1), share(4, 1, 2)]
        gone = []
        for x in range(400):
            went, got = ask(*shares, goes(x), gets(x))[3:]
            if went[0] < 3:
                self.assertEqual(got, [-3], x)
            else:
                gone.append(x)
                self.assertEqual((len(got), got[0], got[-1], sum(got)), (5, 3, went[-1], x))
        # Parts of 4k + 1 at the second share, so of 2 * (4k + 1) at the first.
        self.assertEqual(gone, [3 * 2 * (4 * k + 1) + 2 for k in range(17)])

    def test_it_changes_nothing(self):
        self.assertEqual(ask(share(4, 3, 1), gets(22), gets(23), gets(23), share(7, 1, 3), gets(23))[1:],
                         [[-3], [3, 5, 15], [3, 5, 15], [2], [4, 5, 6, 8]])


if __name__ == "__main__":
    unittest.main()
