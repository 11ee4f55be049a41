"""The interface: one list in, one list out, nothing changed and nothing kept."""

import contextlib
import io
import unittest

import toadsfrogs.stones
from toadsfrogs.stones import answers, split_calls

MANY = [3, 1, 0, 2, 4, 3, 2, 0, 1, 5, 3, 2, 0, 1, 0, 0, 3, 0, 4, 1, 2, 0, 2, 1, 9, 2, 5, 2, 1, 1, 1, 1, 3]
TOLD = [4, 3, 1, 0, 2, 4, 1, 0, 1, 2, 2, 1, 2, 4, 2, 1, 2, 1, 1, 1, 1, -1, 4, 3, 0, 1, 2,
        1, 2, 1, -1, 3, 2, 0, 3, 1, -1, 1, -2, 5, 4, 1, 2, 0, 2]


class ListInListOut(unittest.TestCase):
    def test_one_call(self):
        self.assertEqual(answers([3]), [4, 3, 1, 0, 2])
        self.assertEqual(answers([2]), [3, 2, 0, 2])
        self.assertEqual(answers([1, 0]), [4, 1, 0, 1, 2])
        self.assertEqual(answers([0, 1, 1]), [1, 0])
        self.assertEqual(answers([4, 3, 2, 0, 1]), [5, 3, 1, 0, 2, 1])
        self.assertEqual(answers([5, 3, 2, 0, 1]), [1, 2])

    def test_one_refusal(self):
        self.assertEqual(answers([0, 0]), [1, -1])
        self.assertEqual(answers([1, 1]), [1, -4])
        self.assertEqual(answers([4, 0]), [1, -1])
        self.assertEqual(answers([4, 3, 0, 0, 0]), [1, -6])
        self.assertEqual(answers([5, 0]), [1, -1])

    def test_several_calls(self):
        self.assertEqual(answers(MANY), TOLD)

    def test_forty_calls_and_the_longest_rows_to_read(self):
        told = answers(([0, 20] + [4294967295] * 20) * 40)
        self.assertEqual(told, [1, -1] * 40)

    def test_by_the_name_of_the_module(self):
        self.assertEqual(toadsfrogs.stones.answers([2]), [3, 2, 0, 2])

    def test_numbers_in_rows_are_not_taken_for_calls(self):
        self.assertEqual(answers([0, 3, 2, 3, 3, 3]), [1, -1, 4, 3, 1, 0, 2])
        self.assertEqual(answers([1, 3, 3]), [1, -1, 4, 3, 1, 0, 2])


class NothingChangedOrKept(unittest.TestCase):
    def test_what_is_handed_in_is_as_it_was(self):
        calls = list(MANY)
        answers(calls)
        self.assertEqual(calls, MANY)

    def test_the_same_twice(self):
        calls = list(MANY)
        self.assertEqual(answers(calls), TOLD)
        self.assertEqual(answers(calls), TOLD)

    def test_each_time_the_row_is_new(self):
        answers([0, 2, 1, 0])
        self.assertEqual(answers([3]), [4, 3, 1, 0, 2])
        answers([1, 0])
        self.assertEqual(answers([3]), [4, 3, 1, 0, 2])

    def test_what_is_given_back_is_a_list_of_its_own(self):
        first = answers(MANY)
        first.clear()
        self.assertEqual(answers(MANY), TOLD)

    def test_kinds(self):
        told = answers(MANY)
        self.assertIs(type(told), list)
        self.assertEqual({type(number) for number in told}, {int})

    def test_prints_nothing(self):
        out = io.StringIO()
        with contextlib.redirect_stdout(out), contextlib.redirect_stderr(out):
            answers(MANY)
        self.assertEqual(out.getvalue(), "")


class Reading(unittest.TestCase):
    def test_every_call_has_its_place(self):
        parts = [
            [0, 2, 1, 0], [1, 7], [2], [3], [4, 1, 9], [5, 0], [6], [7], [8], [9, 3, 1, 0, 2], [10, 4, 1, 4],
            [6], [10, 0, 0, 0], [9, 0], [8], [0, 0], [7],
        ]
        self.assertEqual(split_calls(sum(parts, [])), parts)


if __name__ == "__main__":
    unittest.main()
