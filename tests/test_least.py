import unittest

from tests.asking import NIGHTS, NO_HEAP_NIGHTS, TOP, ask, ask_last, every, gets, goes, least, sailors, share


class LeastAnswers(unittest.TestCase):
    def test_from_0_on(self):
        for name, (calls, first, _) in NIGHTS.items():
            self.assertEqual(ask_last(*calls, least(0)), [first], name)

    def test_at_a_heap_that_goes_below_it_and_above_it(self):
        for name, (calls, first, step) in NIGHTS.items():
            for k in range(4):
                heap = first + k * step
                for x, told in ((heap - 1, heap), (heap, heap), (heap + 1, heap + step)):
                    # With a step of 1 the heap below goes, too.
                    if 0 <= x <= TOP and (step > 1 or x >= heap):
                        self.assertEqual(ask_last(*calls, least(x)), [told], (name, x))

    def test_every_x_of_a_small_night(self):
        shares = [share(3, 2, 1), share(4, 2, 1)]
        # 3 * 1 + 2 = 5, 2 * 1 = 2; of 0, 2, 4, 6, .. every second one leaves 2 of 4.
        told = [5] * 6 + [11] * 6 + [17] * 6
        answered = [ask_last(*shares, least(x)) for x in range(18)]
        self.assertEqual(answered, [[heap] for heap in told])

    def test_the_greatest_x(self):
        self.assertEqual(ask(least(TOP)), [[TOP]])
        self.assertEqual(ask_last(share(5, 0, 1), least(TOP)), [TOP])
        self.assertEqual(ask_last(share(2, 1, 1), least(TOP)), [TOP])

    def test_an_answer_greater_than_all_that_is_handed_in(self):
        self.assertEqual(ask_last(share(2, 0, 1), least(TOP)), [4294967296])
        self.assertEqual(ask_last(share(5, 4, 5), least(TOP)), [4294967299])
        self.assertEqual(ask_last(sailors(9), least(TOP)), [2 * 3486784401 - 8])
        self.assertEqual(ask_last(*[share(9, 8, 1)] * 10, least(TOP)), [2 * 3486784401 - 64])
        self.assertEqual(ask_last(*[share(9, 0, 8)] * 10, least(TOP)), [2 * 3486784401])

    def test_the_puzzle_of_the_sailors(self):
        told = [7, 79, 1021, 15621, 279931, 5764795, 134217721, 3486784393]
        self.assertEqual([ask_last(sailors(n), least(0))[0] for n in range(2, 10)], told)

    def test_with_no_heap(self):
        for name, calls in NO_HEAP_NIGHTS.items():
            for x in (0, 1, 60, TOP):
                self.assertEqual(ask_last(*calls, least(x)), [-6], (name, x))

    def test_it_changes_nothing(self):
        self.assertEqual(
            ask(share(4, 3, 1), least(24), goes(23), share(7, 1, 3), least(0), gets(23), share(6, 5, 1),
                least(0), every(), share(2, 0, 1))[1:],
            [[27], [1, 15], [2], [23], [4, 5, 6, 8], [3], [-6], [-6], [4]])


if __name__ == "__main__":
    unittest.main()
