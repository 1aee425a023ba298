import unittest

from tests.asking import TOP, ask, ask_last, goes, share


class GoesAnswers(unittest.TestCase):
    def test_with_no_shares(self):
        for x in (0, 1, 12, TOP):
            self.assertEqual(ask(goes(x)), [[0]], x)

    def test_where_none_goes(self):
        self.assertEqual(ask_last(share(3, 1, 1), share(2, 0, 1), goes(9)), [0])

    def test_shares_behind_one_that_does_not_go_are_not_asked(self):
        self.assertEqual(ask_last(share(3, 1, 1), share(3, 0, 1), goes(9)), [0])
        self.assertEqual(ask_last(share(2, 0, 1), share(3, 1, 1), share(3, 0, 1), goes(12)), [1, 6])

    def test_where_some_go(self):
        # 25 = 3 * 8 + 1, 16 are left; 16 = 4 * 4, 8 are left; 8 is even.
        self.assertEqual(ask_last(share(3, 1, 1), share(4, 0, 2), share(2, 1, 1), goes(25)), [2, 16, 8])

    def test_where_all_go(self):
        self.assertEqual(ask_last(share(3, 1, 1), share(4, 0, 2), share(2, 0, 1), goes(25)), [3, 16, 8, 4])

    def test_behind_a_share_of_which_all_is_taken(self):
        self.assertEqual(ask_last(share(5, 2, 5), goes(12)), [1, 0])
        self.assertEqual(ask_last(share(5, 2, 5), share(3, 0, 1), share(9, 0, 9), goes(12)), [3, 0, 0, 0])
        self.assertEqual(ask_last(share(5, 2, 5), share(3, 1, 1), share(9, 0, 9), goes(12)), [1, 0])

    def test_the_heap_0(self):
        self.assertEqual(ask_last(share(2, 0, 1), share(9, 0, 9), goes(0)), [2, 0, 0])
        self.assertEqual(ask_last(share(2, 1, 1), share(9, 0, 9), goes(0)), [0])
        self.assertEqual(ask_last(share(2, 0, 1), share(9, 8, 9), goes(0)), [1, 0])

    def test_a_heap_of_just_what_is_over(self):
        self.assertEqual(ask_last(share(9, 8, 1), share(2, 0, 1), goes(8)), [2, 0, 0])
        self.assertEqual(ask_last(share(9, 8, 1), goes(7)), [0])

    def test_the_greatest_heap(self):
        told = [TOP >> k for k in range(1, 11)]
        self.assertEqual(ask_last(*[share(2, 1, 1)] * 10, goes(TOP)), [10] + told)
        self.assertEqual(ask_last(share(5, 0, 1), goes(TOP)), [1, 3435973836])
        self.assertEqual(ask_last(share(2, 0, 1), goes(TOP)), [0])

    def test_each_share_leaves_the_parts_not_taken(self):
        for p in range(2, 10):
            for r in range(p):
                for t in range(1, p + 1):
                    self.assertEqual(ask_last(share(p, r, t), goes(7 * p + r)), [1, 7 * (p - t)], (p, r, t))

    def test_just_the_heaps_that_leave_what_is_over(self):
        for p in range(2, 10):
            for r in range(p):
                asked = ask(share(p, r, p), *[goes(x) for x in range(30)])[1:]
                heaps = [p * q + r for q in range(30)]
                self.assertEqual(asked, [[1, 0] if x in heaps else [0] for x in range(30)], (p, r))

    def test_it_changes_nothing(self):
        self.assertEqual(ask(share(3, 1, 1), goes(25), goes(24), goes(25), share(4, 0, 2), goes(25))[1:],
                         [[1, 16], [0], [1, 16], [2], [2, 16, 8]])


if __name__ == "__main__":
    unittest.main()
