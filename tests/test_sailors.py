import unittest

from tests.asking import TOP, ask, ask_last, gets, goes, night, sailors, share, undo


class SailorsAnswers(unittest.TestCase):
    def test_one_share_more_than_sailors(self):
        for n in range(2, 10):
            self.assertEqual(ask(sailors(n)), [[n + 1]], n)

    def test_below_2_and_above_9(self):
        for n in (0, 1, 10, 11, TOP):
            self.assertEqual(ask(sailors(n)), [[-1]], n)

    def test_two_sailors(self):
        self.assertEqual(ask(sailors(2), goes(7), gets(7)), [[3], [3, 3, 1, 0], [3, 3, 1, 0, 0]])

    def test_five_sailors(self):
        self.assertEqual(ask_last(sailors(5), goes(15621)), [6, 12496, 9996, 7996, 6396, 5116, 0])
        self.assertEqual(ask_last(sailors(5), gets(15621)), [6, 3124, 2499, 1999, 1599, 1279, 5115, 0])

    def test_the_same_as_their_shares_told_one_by_one(self):
        for n in range(2, 10):
            one_by_one = [share(n, 1, 1)] * n + [share(n, 1, n)]
            # All shares go with this heap: with n - 1 more in it, each share
            # would divide by n with none over, n + 1 times.
            heap = n ** (n + 1) - n + 1
            for x in (heap, heap - 1, heap + n, heap + n * n, 2 * n + 1, 0, 1):
                if x <= TOP:
                    told = ask(*one_by_one, goes(x), gets(x))[-2:]
                    self.assertEqual(ask(sailors(n), goes(x), gets(x))[1:], told, (n, x))

    def test_nine_sailors_up_to_the_end(self):
        heap = 9 ** 10 - 8
        self.assertEqual(heap, 3486784393)
        self.assertEqual(ask_last(sailors(9), goes(heap))[0], 10)
        self.assertEqual(ask_last(sailors(9), goes(heap))[-1], 0)

    def test_shares_that_were_there_are_gone(self):
        before = [share(7, 3, 2), share(4, 0, 4)]
        self.assertEqual(ask(*before, sailors(2), goes(7), gets(7))[2:], [[3], [3, 3, 1, 0], [3, 3, 1, 0, 0]])

    def test_where_there_are_ten(self):
        self.assertEqual(ask(*[share(2, 0, 1)] * 10, sailors(9), sailors(2), goes(7))[10:],
                         [[10], [3], [3, 3, 1, 0]])

    def test_share_and_undo_behind_it(self):
        self.assertEqual(ask(sailors(9), share(2, 0, 1), undo(), share(2, 0, 1)), [[10], [-5], [9], [10]])
        self.assertEqual(ask(sailors(2), share(3, 0, 1), goes(7)), [[3], [4], [4, 3, 1, 0, 0]])

    def test_a_refusal_leaves_the_night_as_it_was(self):
        for n in (0, 1, 10, TOP):
            self.assertEqual(ask(share(3, 1, 1), share(4, 2, 3), sailors(n), gets(4), undo())[2:],
                             [[-1], [3, 1, 0, 0], [1]], n)
            self.assertEqual(ask(sailors(2), sailors(n), goes(7))[1:], [[-1], [3, 3, 1, 0]], n)
            self.assertEqual(ask(night(), sailors(n), undo()), [[0], [-1], [-9]], n)


if __name__ == "__main__":
    unittest.main()
