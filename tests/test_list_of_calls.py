import contextlib
import io
import unittest
from unittest import mock

from coconutheaps.heaps import answers
from tests.asking import TOP, gets, goes, in_one_list, night, sailors, share, undo

# Every call, answered and refused.
MIXED = in_one_list([
    undo(), share(3, 1, 1), share(3, 3, 1), goes(25), gets(25), gets(24), sailors(2), sailors(10),
    goes(7), gets(7), undo(), night(), goes(TOP), gets(TOP),
])
MIXED_TOLD = [
    1, -9, 1, 1, 1, -1, 2, 1, 16, 3, 1, 8, 16, 1, -3, 1, 3, 1, -1,
    4, 3, 3, 1, 0, 5, 3, 3, 1, 0, 0, 1, 2, 1, 0, 1, 0, 2, 0, TOP,
]


class Unchangeable(list):
    """A list that fails where it is changed, even for a while."""

    def refuse(self, *args, **kwargs):
        raise AssertionError("what was handed in is changed")

    append = extend = insert = pop = remove = clear = sort = reverse = refuse
    __setitem__ = __delitem__ = __iadd__ = __imul__ = refuse


class ListOfCalls(unittest.TestCase):
    def test_one_call(self):
        self.assertEqual(answers([0]), [1, 0])
        self.assertEqual(answers([1, 2, 1, 1]), [1, 1])
        self.assertEqual(answers([2]), [1, -9])
        self.assertEqual(answers([3, 9]), [1, 10])
        self.assertEqual(answers([4, 8]), [1, 0])
        self.assertEqual(answers([5, 8]), [2, 0, 8])

    def test_how_many_then_these_call_by_call(self):
        self.assertEqual(answers(list(MIXED)), MIXED_TOLD)

    def test_a_refusal_is_alone(self):
        self.assertEqual(answers([3, 1, 1, 9, 9, 9, 2, 1, 2, 1, 1, 5, 2]), [1, -1, 1, -1, 1, -9, 1, 1, 1, -3])

    def test_numbers_of_a_call_are_not_taken_for_calls(self):
        self.assertEqual(answers([4, 2, 5, 0, 1, 2, 0, 1, 4, 4]), [1, 0, 2, 0, 0, 1, 1, 2, 1, 2])

    def test_forty_calls(self):
        calls = in_one_list([share(2, 1, 1)] * 10 + [share(2, 1, 1)] * 5 + [gets(1023)] * 10 + [undo()] * 15)
        ten_get = [12, 10] + [1023 >> k for k in range(1, 11)] + [0]
        told = in_one_list(
            [[1, k] for k in range(1, 11)] + [[1, -5]] * 5 + [ten_get] * 10
            + [[1, k] for k in range(9, -1, -1)] + [[1, -9]] * 5)
        self.assertEqual(answers(calls), told)

    def test_the_longest_list(self):
        calls = [1, 9, 8, 9] * 40
        self.assertEqual(len(calls), 160)
        self.assertEqual(answers(calls), in_one_list([[1, k] for k in range(1, 11)] + [[1, -5]] * 30))

    def test_forty_of_the_shortest(self):
        self.assertEqual(answers([0] * 40), [1, 0] * 40)
        self.assertEqual(answers([2] * 40), [1, -9] * 40)

    def test_what_is_handed_in_is_not_changed(self):
        calls = list(MIXED)
        answers(calls)
        self.assertEqual(calls, MIXED)
        self.assertEqual(answers(Unchangeable(MIXED)), MIXED_TOLD)

    def test_nothing_is_kept(self):
        calls = [1, 3, 1, 1, 4, 25]
        self.assertEqual(answers(calls), [1, 1, 2, 1, 16])
        self.assertEqual(answers(calls), [1, 1, 2, 1, 16])
        self.assertEqual(answers([3, 9]), [1, 10])
        self.assertEqual(answers([2]), [1, -9])
        self.assertEqual(answers(calls), [1, 1, 2, 1, 16])

    def test_what_is_given_back_is_the_callers(self):
        first = answers(list(MIXED))
        first.clear()
        self.assertEqual(answers(list(MIXED)), MIXED_TOLD)

    def test_lists_of_plain_whole_numbers(self):
        answered = answers(list(MIXED))
        self.assertIs(type(answered), list)
        self.assertEqual({type(number) for number in answered}, {int})

    def test_it_prints_reads_and_imports_nothing(self):
        fails = AssertionError("not to be called")
        printed = io.StringIO()
        with contextlib.redirect_stdout(printed), contextlib.redirect_stderr(printed), \
                mock.patch("builtins.open", side_effect=fails), \
                mock.patch("builtins.input", side_effect=fails), \
                mock.patch("builtins.__import__", side_effect=fails):
            answered = answers(list(MIXED))
        self.assertEqual(answered, MIXED_TOLD)
        self.assertEqual(printed.getvalue(), "")


if __name__ == "__main__":
    unittest.main()
