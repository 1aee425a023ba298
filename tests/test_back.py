import unittest

from tests.asking import NIGHTS, NO_HEAP_NIGHTS, TOP, ask, ask_last, back, gets, sailors, share, undo


class BackAnswers(unittest.TestCase):
    def test_with_no_shares(self):
        for y in (0, 1, 12, TOP):
            self.assertEqual(ask(back(y)), [[y]], y)

    def test_one_share(self):
        # 5 parts of 7 are left.
        told = [3, -6, -6, -6, -6, 10, -6, -6, -6, -6, 17]
        self.assertEqual([ask_last(share(7, 3, 2), back(y))[0] for y in range(11)], told)

    def test_each_one_share(self):
        for p in range(2, 10):
            for r in range(p):
                for t in range(1, p):
                    told = [[7 * p + r], [-6] if p - t > 1 else [8 * p + r]]
                    y = 7 * (p - t)
                    self.assertEqual(ask(share(p, r, t), back(y), back(y + 1))[1:], told, (p, r, t))

    def test_where_it_does_not_go_back_through_the_last(self):
        shares = [share(3, 1, 1), share(5, 4, 4), share(4, 0, 1)]
        # 3 go back to 4, to 5 * 4 + 4 = 24, to 24 // 2 * 3 + 1 = 37.
        self.assertEqual(ask(*shares, back(2), back(3), back(4), back(6))[3:], [[-6], [37], [-6], [67]])

    def test_where_it_does_not_go_back_through_the_first(self):
        shares = [share(3, 1, 1), share(5, 4, 4), share(3, 0, 2)]
        # 1 goes back to 3, to 19; 2 to 6, to 34, to 17 * 3 + 1 = 52.
        self.assertEqual(ask(*shares, back(1), back(2), back(3), gets(52))[3:], [[-6], [52], [-6], [5, 17, 24, 4, 2]])

    def test_where_it_does_not_go_back_through_one_in_the_middle(self):
        shares = [share(2, 1, 1), share(5, 0, 2), share(2, 1, 1)]
        # 0 goes back to 1; 1 to 3, to 5, to 11.
        self.assertEqual(ask(*shares, back(0), back(1), back(2), back(4))[3:], [[-6], [11], [-6], [31]])

    def test_none_are_left(self):
        self.assertEqual(ask_last(share(7, 0, 2), share(3, 0, 1), back(0)), [0])
        self.assertEqual(ask_last(share(4, 3, 3), share(5, 2, 4), back(0)), [11])
        self.assertEqual(ask_last(share(4, 3, 2), share(5, 3, 4), back(0)), [-6])

    def test_the_greatest_y(self):
        self.assertEqual(ask_last(share(7, 3, 2), back(TOP)), [TOP // 5 * 7 + 3])
        self.assertEqual(ask_last(share(9, 8, 2), back(TOP)), [-6])
        self.assertEqual(ask_last(*[share(2, 1, 1)] * 10, back(TOP)), [2 ** 42 - 1])

    def test_ten_shares(self):
        calls, first, step = NIGHTS["ten shares"]
        for y in (0, 1, 2, 1000, TOP):
            self.assertEqual(ask_last(*calls, back(y)), [first + y * step], y)

    def test_ten_of_9_parts(self):
        calls, first, step = NIGHTS["ten of 9 parts"]
        for k in range(4):
            y = (k + 1) * 8 ** 10 - 64
            self.assertEqual(ask(*calls, back(y), back(y - 1), back(y + 1))[10:], [[first + k * step], [-6], [-6]], k)
        self.assertEqual(ask(*calls, back(0), back(TOP))[10:], [[-6], [-6]])
        self.assertEqual(ask_last(*[share(9, 8, 8)] * 10, back(TOP)), [9 ** 10 * 2 ** 32 - 1])

    def test_shares_that_go_with_more_heaps(self):
        # 4 * 2 left 4, and 2 * 2 left 2.
        self.assertEqual(ask(*NIGHTS["a share that always goes"][0], back(0), back(1), back(2))[2:], [[0], [4], [8]])
        # Of 11 are left 4, of which 0; of 23 are left 12, of which 5.
        calls = NIGHTS["a share that goes with each second heap"][0]
        self.assertEqual(ask(*calls, back(0), back(5), back(4))[2:], [[11], [23], [-6]])

    def test_all_parts_taken_with_some_share(self):
        names = [name for name in NIGHTS if name.startswith(("all taken", "sailors"))]
        self.assertEqual(len(names), 12)
        for name in names:
            for y in (0, 1, 12, TOP):
                self.assertEqual(ask_last(*NIGHTS[name][0], back(y)), [-7], (name, y))

    def test_with_no_heap(self):
        for name in ("odd behind even", "odd behind even, last of three"):
            for y in (0, 1, 2, 3, 60, TOP):
                self.assertEqual(ask_last(*NO_HEAP_NIGHTS[name], back(y)), [-6], (name, y))

    def test_of_several_refusals_the_one_told_first(self):
        names = [name for name in NO_HEAP_NIGHTS if name.startswith(("all taken", "sailors"))]
        self.assertEqual(len(names), 4)
        for name in names:
            for y in (0, 1, 60, TOP):
                self.assertEqual(ask_last(*NO_HEAP_NIGHTS[name], back(y)), [-7], (name, y))
        # y doesn't go back through the last, and the first takes all.
        self.assertEqual(ask_last(share(2, 0, 2), share(4, 0, 1), back(1)), [-7])

    def test_it_changes_nothing(self):
        self.assertEqual(
            ask(share(4, 3, 1), back(15), back(14), share(7, 1, 3), back(8), gets(23), share(2, 0, 2), back(0),
                undo(), back(8), sailors(2), back(0), share(2, 1, 1))[1:],
            [[23], [-6], [2], [23], [4, 5, 6, 8], [3], [-7], [2], [23], [3], [-7], [4]])


if __name__ == "__main__":
    unittest.main()
