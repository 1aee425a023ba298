import contextlib
import io
import unittest
from unittest import mock

from coconutheaps.heaps import answers
from tests.asking import (
    TOP, back, count, every, gets, goes, in_one_list, last, least, night, richest, sailors, share, undo,
)

# Every call, answered and refused with each of its refusals but the one for
# ten shares: 40 of them.
MIXED_CALLS = [
    (undo(), [-9]),
    (share(3, 1, 1), [1]),
    (share(3, 3, 1), [-1]),
    (goes(25), [1, 16]),
    (gets(25), [1, 8, 16]),
    (gets(24), [-3]),
    (least(5), [7]),
    (every(), [1, 3]),
    (count(25), [9]),
    (richest(8, 0), [25]),
    (richest(0, 1), [-1]),
    (back(16), [25]),
    (back(15), [-6]),
    (last(4), [2, 0, 2]),
    (last(0), [-1]),
    (sailors(2), [3]),
    (sailors(10), [-1]),
    (goes(7), [3, 3, 1, 0]),
    (gets(7), [3, 3, 1, 0, 0]),
    (back(0), [-7]),
    (richest(1, 2), [15]),
    (share(5, 4, 5), [4]),
    (least(0), [-6]),
    (every(), [-6]),
    (count(TOP), [0]),
    (richest(1, 3), [-6]),
    (back(0), [-7]),
    (last(20), [-6]),
    (undo(), [3]),
    (share(5, 0, 1), [4]),
    (richest(1, 3), [-4]),
    (last(20), [1, 0]),
    (night(), [0]),
    (goes(TOP), [0]),
    (gets(TOP), [0, TOP]),
    (least(TOP), [TOP]),
    (every(), [0, 1]),
    (count(TOP), [TOP + 1]),
    (back(TOP), [TOP]),
    (last(3), [3, 0, 1, 2]),
]
MIXED = in_one_list([call for call, _ in MIXED_CALLS])
MIXED_TOLD = in_one_list([[len(told), *told] for _, told in MIXED_CALLS])


class Unchangeable(list):
    """A list that fails where it is changed, even for a while."""

    def refuse(self, *args, **kwargs):
        raise AssertionError("what was handed in is changed")

    append = extend = insert = pop = remove = clear = sort = reverse = refuse
    __setitem__ = __delitem__ = __iadd__ = __imul__ = refuse


class ListOfCalls(unittest.TestCase):
    def test_one_call(self):
        self.assertEqual(answers([0]), [1, 0])
        self.assertEqual(answers([1, 2, 1, 1]), [1, 1])
        self.assertEqual(answers([2]), [1, -9])
        self.assertEqual(answers([3, 9]), [1, 10])
        self.assertEqual(answers([4, 8]), [1, 0])
        self.assertEqual(answers([5, 8]), [2, 0, 8])
        self.assertEqual(answers([6, 8]), [1, 8])
        self.assertEqual(answers([7]), [2, 0, 1])
        self.assertEqual(answers([8, 8]), [1, 9])
        self.assertEqual(answers([9, 8, 0]), [1, -1])
        self.assertEqual(answers([10, 8]), [1, 8])
        self.assertEqual(answers([11, 4]), [5, 4, 0, 1, 2, 3])

    def test_how_many_then_these_call_by_call(self):
        self.assertEqual(len(MIXED_CALLS), 40)
        self.assertEqual({call[0] for call, _ in MIXED_CALLS}, set(range(12)))
        self.assertEqual(answers(list(MIXED)), MIXED_TOLD)

    def test_a_refusal_is_alone(self):
        self.assertEqual(answers([3, 1, 1, 9, 9, 9, 2, 1, 2, 1, 1, 5, 2]), [1, -1, 1, -1, 1, -9, 1, 1, 1, -3])
        self.assertEqual(answers([1, 2, 1, 2, 1, 2, 1, 1, 6, 0, 7, 9, 0, 0, 9, 0, 2, 10, 0, 11, 20, 11, 21]),
                         [1, 1, 1, 2, 1, -6, 1, -6, 1, -6, 1, -1, 1, -7, 1, -6, 1, -1])

    def test_numbers_of_a_call_are_not_taken_for_calls(self):
        self.assertEqual(answers([4, 2, 5, 0, 1, 2, 0, 1, 4, 4]), [1, 0, 2, 0, 0, 1, 1, 2, 1, 2])
        self.assertEqual(answers([6, 7, 8, 9, 9, 10, 11, 10, 0, 11, 2, 7]),
                         [1, 7, 1, 10, 1, -1, 1, 0, 3, 2, 0, 1, 2, 0, 1])

    def test_forty_calls(self):
        calls = in_one_list([share(2, 1, 1)] * 10 + [share(2, 1, 1)] * 5 + [gets(1023)] * 10 + [undo()] * 15)
        ten_get = [12, 10] + [1023 >> k for k in range(1, 11)] + [0]
        told = in_one_list(
            [[1, k] for k in range(1, 11)] + [[1, -5]] * 5 + [ten_get] * 10
            + [[1, k] for k in range(9, -1, -1)] + [[1, -9]] * 5)
        self.assertEqual(answers(calls), told)

    def test_the_longest_list(self):
        calls = [1, 9, 8, 9] * 40
        self.assertEqual(len(calls), 160)
        self.assertEqual(answers(calls), in_one_list([[1, k] for k in range(1, 11)] + [[1, -5]] * 30))

    def test_forty_of_the_shortest(self):
        self.assertEqual(answers([0] * 40), [1, 0] * 40)
        self.assertEqual(answers([2] * 40), [1, -9] * 40)
        self.assertEqual(answers([7] * 40), [2, 0, 1] * 40)

    def test_forty_of_the_longest_answers(self):
        self.assertEqual(answers([11, 20] * 40), [21, 20, *range(20)] * 40)

    def test_what_is_handed_in_is_not_changed(self):
        calls = list(MIXED)
        answers(calls)
        self.assertEqual(calls, MIXED)
        self.assertEqual(answers(Unchangeable(MIXED)), MIXED_TOLD)

    def test_nothing_is_kept(self):
        calls = [1, 3, 1, 1, 4, 25]
        self.assertEqual(answers(calls), [1, 1, 2, 1, 16])
        self.assertEqual(answers(calls), [1, 1, 2, 1, 16])
        self.assertEqual(answers([3, 9]), [1, 10])
        self.assertEqual(answers([2]), [1, -9])
        self.assertEqual(answers(calls), [1, 1, 2, 1, 16])

    def test_what_is_given_back_is_the_callers(self):
        first = answers(list(MIXED))
        first.clear()
        self.assertEqual(answers(list(MIXED)), MIXED_TOLD)

    def test_lists_of_plain_whole_numbers(self):
        answered = answers(list(MIXED))
        self.assertIs(type(answered), list)
        self.assertEqual({type(number) for number in answered}, {int})

    def test_it_prints_reads_and_imports_nothing(self):
        fails = AssertionError("not to be called")
        printed = io.StringIO()
        with contextlib.redirect_stdout(printed), contextlib.redirect_stderr(printed), \
                mock.patch("builtins.open", side_effect=fails), \
                mock.patch("builtins.input", side_effect=fails), \
                mock.patch("builtins.__import__", side_effect=fails):
            answered = answers(list(MIXED))
        self.assertEqual(answered, MIXED_TOLD)
        self.assertEqual(printed.getvalue(), "")


if __name__ == "__main__":
    unittest.main()
