import unittest

from tests.asking import ask, ask_last, gets, goes, night, sailors, share, undo


class UndoAnswers(unittest.TestCase):
    def test_how_many_there_are_then(self):
        self.assertEqual(ask(share(2, 0, 1), share(3, 0, 1), undo(), undo())[2:], [[1], [0]])

    def test_the_last_share_goes_away(self):
        self.assertEqual(ask_last(share(2, 1, 1), share(3, 2, 2), undo(), gets(11)), [1, 5, 5])

    def test_none(self):
        self.assertEqual(ask(undo()), [[-9]])

    def test_once_more_behind_a_refusal(self):
        self.assertEqual(ask(undo(), undo(), share(2, 0, 1), undo(), undo()), [[-9], [-9], [1], [0], [-9]])

    def test_a_refusal_leaves_all_as_it_was(self):
        self.assertEqual(ask(undo(), goes(7), gets(7), share(2, 1, 1)), [[-9], [0], [0, 7], [1]])

    def test_behind_a_refused_share(self):
        self.assertEqual(ask(share(2, 1, 1), share(3, 2, 2), share(3, 3, 1), undo(), gets(11))[2:],
                         [[-1], [1], [1, 5, 5]])

    def test_all_ten(self):
        told = [[k] for k in range(9, -1, -1)] + [[-9]]
        self.assertEqual(ask(*[share(9, 8, 1)] * 10, *[undo()] * 11)[10:], told)

    def test_behind_sailors(self):
        self.assertEqual(ask(sailors(3), undo(), goes(79), undo())[1:], [[3], [3, 52, 34, 22], [2]])

    def test_another_share_in_its_place(self):
        self.assertEqual(ask_last(share(2, 1, 1), share(3, 2, 2), undo(), share(5, 0, 5), gets(11)), [1, 5, 5, 0])


class NightAnswers(unittest.TestCase):
    def test_with_no_shares(self):
        self.assertEqual(ask(night(), night()), [[0], [0]])

    def test_behind_some_shares(self):
        self.assertEqual(ask(share(2, 0, 1), share(3, 0, 1), night(), goes(5), gets(5), undo())[2:],
                         [[0], [0], [0, 5], [-9]])

    def test_shares_are_counted_anew(self):
        self.assertEqual(ask(*[share(2, 0, 1)] * 10, night(), share(2, 0, 1))[10:], [[0], [1]])

    def test_behind_sailors(self):
        self.assertEqual(ask(sailors(9), night(), share(2, 0, 1))[1:], [[0], [1]])


if __name__ == "__main__":
    unittest.main()
