import unittest

from tests.asking import NIGHTS, NO_HEAP_NIGHTS, TOP, ask, ask_last, count, every, gets, sailors, share


class CountAnswers(unittest.TestCase):
    def test_below_the_least_heap(self):
        for name, (calls, first, _) in NIGHTS.items():
            if first > 0:
                self.assertEqual(ask_last(*calls, count(first - 1)), [0], name)
                self.assertEqual(ask_last(*calls, count(0)), [0], name)

    def test_at_the_least_heap(self):
        for name, (calls, first, _) in NIGHTS.items():
            self.assertEqual(ask_last(*calls, count(first)), [1], name)

    def test_one_below_at_and_above_a_later_heap(self):
        for name, (calls, first, step) in NIGHTS.items():
            for k in (1, 2, 3, 10, 100):
                heap = first + k * step
                if heap < TOP:
                    self.assertEqual(ask_last(*calls, count(heap - 1)), [k], (name, k))
                    self.assertEqual(ask_last(*calls, count(heap)), [k + 1], (name, k))
                    if step > 1:
                        self.assertEqual(ask_last(*calls, count(heap + 1)), [k + 1], (name, k))

    def test_to_0(self):
        self.assertEqual(ask(count(0)), [[1]])
        self.assertEqual(ask_last(share(2, 0, 1), count(0)), [1])
        self.assertEqual(ask_last(share(2, 1, 1), count(0)), [0])

    def test_to_the_greatest_x(self):
        self.assertEqual(ask(count(TOP)), [[4294967296]])
        self.assertEqual(ask_last(share(2, 0, 1), count(TOP)), [2147483648])
        self.assertEqual(ask_last(share(2, 1, 1), count(TOP)), [2147483648])
        self.assertEqual(ask_last(share(5, 0, 1), count(TOP)), [858993460])
        self.assertEqual(ask_last(share(5, 1, 5), count(TOP)), [858993459])
        self.assertEqual(ask_last(sailors(9), count(TOP)), [1])
        self.assertEqual(ask_last(sailors(5), count(TOP)), [274877])

    def test_only_one_to_the_greatest_x(self):
        shares = [share(9, 8, 8)] * 10
        self.assertEqual(ask(*shares, every(), count(TOP), count(9 ** 10 - 1), count(9 ** 10 - 2))[10:],
                         [[9 ** 10 - 1, 9 ** 10], [1], [1], [0]])

    def test_with_no_heap_there_is_none(self):
        for name, calls in NO_HEAP_NIGHTS.items():
            for x in (0, 1, 60, TOP):
                self.assertEqual(ask_last(*calls, count(x)), [0], (name, x))

    def test_it_changes_nothing(self):
        self.assertEqual(
            ask(count(9), share(4, 3, 1), count(23), share(7, 1, 3), count(22), count(23), gets(23),
                share(6, 5, 1), count(TOP), share(2, 0, 1)),
            [[10], [1], [6], [2], [0], [1], [4, 5, 6, 8], [3], [0], [4]])


if __name__ == "__main__":
    unittest.main()
