import unittest

from tests.asking import NIGHTS, NO_HEAP_NIGHTS, ask, ask_last, every, gets, night, sailors, share, undo


class EveryAnswers(unittest.TestCase):
    def test_the_least_heap_then_the_step(self):
        for name, (calls, first, step) in NIGHTS.items():
            self.assertEqual(ask_last(*calls, every()), [first, step], name)

    def test_with_no_shares(self):
        self.assertEqual(ask(every()), [[0, 1]])
        self.assertEqual(ask_last(sailors(3), night(), every()), [0, 1])
        self.assertEqual(ask_last(share(3, 1, 1), undo(), every()), [0, 1])

    def test_each_one_share(self):
        for p in range(2, 10):
            for r in range(p):
                for t in range(1, p + 1):
                    self.assertEqual(ask_last(share(p, r, t), every()), [r, p], (p, r, t))

    def test_where_the_least_heap_is_0(self):
        self.assertEqual(ask_last(share(3, 0, 1), share(3, 0, 3), every()), [0, 9])
        self.assertEqual(ask_last(*[share(9, 0, 1)] * 10, every()), [0, 9 ** 10])

    def test_where_the_least_heap_is_not_0(self):
        self.assertEqual(ask_last(share(3, 0, 1), share(3, 1, 3), every()), [6, 9])
        self.assertEqual(ask_last(share(4, 3, 1), share(7, 1, 3), every()), [23, 28])

    def test_a_step_less_than_all_parts_multiplied(self):
        # What is left of the first is even: of 2 parts all go, of 4 each
        # second one, of 6 each third one.
        self.assertEqual(ask_last(share(4, 1, 2), share(2, 0, 1), every()), [1, 4])
        self.assertEqual(ask_last(share(4, 1, 2), share(4, 2, 1), every()), [5, 8])
        self.assertEqual(ask_last(share(4, 1, 2), share(6, 4, 1), every()), [9, 12])
        # 6 of 9 parts are left, so 6 parts always go; then 4 of 6 are left,
        # and 8 parts go with each second one.
        self.assertEqual(ask_last(share(9, 0, 3), share(6, 0, 2), share(8, 0, 1), every()), [0, 18])

    def test_the_share_behind_all_taken_takes_no_more_steps(self):
        self.assertEqual(ask_last(share(5, 2, 5), share(9, 0, 1), share(8, 0, 8), every()), [2, 5])
        self.assertEqual(ask_last(*[share(2, 0, 2)] * 10, every()), [0, 2])

    def test_with_no_heap(self):
        for name, calls in NO_HEAP_NIGHTS.items():
            self.assertEqual(ask_last(*calls, every()), [-6], name)

    def test_it_changes_nothing(self):
        self.assertEqual(
            ask(every(), share(4, 3, 1), every(), every(), share(2, 1, 2), share(2, 1, 1), every(), undo(),
                every(), gets(7)),
            [[0, 1], [1], [3, 4], [3, 4], [2], [3], [-6], [2], [7, 8], [4, 1, 2, 0]])


if __name__ == "__main__":
    unittest.main()
