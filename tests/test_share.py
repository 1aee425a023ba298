import unittest

from tests.asking import TOP, ask, ask_last, gets, goes, share, undo

TEN = [share(2, 1, 1)] * 10


class ShareAnswers(unittest.TestCase):
    def test_how_many_there_are_then(self):
        self.assertEqual(ask(share(3, 1, 1), share(5, 0, 2), share(3, 1, 1)), [[1], [2], [3]])

    def test_it_is_the_last_one(self):
        # 11 = 2 * 5 + 1, then 5 = 3 * 1 + 2; the other way round
        # 11 = 3 * 3 + 2, then 3 = 2 * 1 + 1.
        self.assertEqual(ask_last(share(2, 1, 1), share(3, 2, 2), gets(11)), [3, 5, 2, 1])
        self.assertEqual(ask_last(share(3, 2, 2), share(2, 1, 1), gets(11)), [3, 6, 1, 1])

    def test_parts_from_2_to_9(self):
        for p in range(2, 10):
            self.assertEqual(ask(share(p, 0, 1)), [[1]], p)

    def test_parts_below_2_and_above_9(self):
        for p in (0, 1, 10, 11, TOP):
            self.assertEqual(ask(share(p, 0, 1)), [[-1]], p)

    def test_over_up_to_parts_less_1(self):
        for p in range(2, 10):
            self.assertEqual(ask(share(p, p - 1, 1)), [[1]], p)
            self.assertEqual(ask(share(p, p, 1)), [[-1]], p)
            self.assertEqual(ask(share(p, TOP, 1)), [[-1]], p)

    def test_taken_from_1_to_parts(self):
        for p in range(2, 10):
            self.assertEqual(ask(share(p, 0, 1)), [[1]], p)
            self.assertEqual(ask(share(p, 0, p)), [[1]], p)
            self.assertEqual(ask(share(p, 0, 0)), [[-1]], p)
            self.assertEqual(ask(share(p, 0, p + 1)), [[-1]], p)
            self.assertEqual(ask(share(p, 0, TOP)), [[-1]], p)

    def test_just_the_shares_that_the_words_tell(self):
        right = [(p, r, t) for p in range(2, 10) for r in range(p) for t in range(1, p + 1)]
        for p in range(13):
            for r in range(13):
                for t in range(13):
                    told = [1] if (p, r, t) in right else [-1]
                    self.assertEqual(ask(share(p, r, t)), [told], (p, r, t))

    def test_0_and_the_greatest_everywhere(self):
        for p in (0, TOP):
            for r in (0, TOP):
                for t in (0, TOP):
                    self.assertEqual(ask(share(p, r, t)), [[-1]], (p, r, t))

    def test_the_tenth_and_an_eleventh(self):
        self.assertEqual(ask(*TEN), [[k] for k in range(1, 11)])
        self.assertEqual(ask(*TEN, share(2, 1, 1), share(9, 8, 9))[10:], [[-5], [-5]])

    def test_a_wrong_one_where_there_are_ten(self):
        wrong = [share(1, 0, 1), share(10, 0, 1), share(3, 3, 1), share(3, 0, 0), share(3, 0, 4)]
        self.assertEqual(ask(*TEN, *wrong)[10:], [[-1]] * 5)

    def test_a_wrong_one_leaves_all_as_it_was(self):
        before = [share(3, 1, 1), share(4, 2, 3)]
        for wrong in (share(1, 0, 1), share(3, 3, 1), share(3, 0, 4)):
            self.assertEqual(ask(*before, wrong, goes(4), undo())[2:], [[-1], [2, 2, 0], [1]])

    def test_an_eleventh_leaves_all_as_it_was(self):
        told = [1023 >> k for k in range(1, 11)]
        self.assertEqual(ask(*TEN, share(2, 0, 2), goes(1023))[10:], [[-5], [10] + told])

    def test_room_again_behind_an_undo(self):
        self.assertEqual(ask(*TEN, share(2, 0, 1), undo(), share(2, 0, 1))[10:], [[-5], [9], [10]])


if __name__ == "__main__":
    unittest.main()
