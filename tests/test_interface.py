"""The interface: one list in, one list out, nothing changed and nothing kept."""

import contextlib
import io
import unittest

import toadsfrogs.stones
from toadsfrogs.stones import answers, split_calls

MANY = [3, 1, 0, 2, 4, 3, 2, 0, 1, 5, 3, 2, 0, 1, 0, 0, 3, 0, 4, 1, 2, 0, 2, 1, 9, 2, 5, 2, 1, 1, 1, 1, 3]
TOLD = [4, 3, 1, 0, 2, 4, 1, 0, 1, 2, 2, 1, 2, 4, 2, 1, 2, 1, 1, 1, 1, -1, 4, 3, 0, 1, 2,
        1, 2, 1, -1, 3, 2, 0, 3, 1, -1, 1, -2, 5, 4, 1, 2, 0, 2]

# All eleven calls, on 1 1 0 2 and, behind the move from stone 1, on 1 0 1 2.
ELEVEN = [0, 4, 1, 1, 0, 2, 4, 4, 2, 0, 1, 1, 5, 4, 2, 0, 1, 1, 1, 1, 6, 7, 8, 9, 4, 2, 0, 1, 1, 10, 3, 3, 1, 2, 3]
ELEVEN_TOLD = [1, 2, 7, 5, 2, 1, 3, 2, 0, 1, 1, 3, 5, 1, 1, 0, 1, 2, 1, 6, 5, 2, 0, 1, 1, 2, 5, 4, 3, 2, 0, 1,
               2, 1, 3, 1, 15, 3, 2, 0, 3, 5, 4, 1, 0, 1, 2]


class ListInListOut(unittest.TestCase):
    def test_one_call(self):
        self.assertEqual(answers([3]), [4, 3, 1, 0, 2])
        self.assertEqual(answers([2]), [3, 2, 0, 2])
        self.assertEqual(answers([1, 0]), [4, 1, 0, 1, 2])
        self.assertEqual(answers([0, 1, 1]), [1, 0])
        self.assertEqual(answers([4, 3, 2, 0, 1]), [5, 3, 1, 0, 2, 1])
        self.assertEqual(answers([5, 3, 2, 0, 1]), [1, 2])
        self.assertEqual(answers([6]), [1, 6])
        self.assertEqual(answers([7]), [4, 1, 2, 0, 1])
        self.assertEqual(answers([8]), [4, 3, 0, 2, 1])
        self.assertEqual(answers([9, 3, 2, 0, 1]), [3, 2, 0, 2])
        self.assertEqual(answers([10, 3, 3, 1]), [1, 15])

    def test_one_refusal(self):
        self.assertEqual(answers([0, 0]), [1, -1])
        self.assertEqual(answers([1, 1]), [1, -4])
        self.assertEqual(answers([4, 0]), [1, -1])
        self.assertEqual(answers([4, 3, 0, 0, 0]), [1, -6])
        self.assertEqual(answers([5, 0]), [1, -1])
        self.assertEqual(answers([9, 0]), [1, -1])
        self.assertEqual(answers([10, 0, 0, 0]), [1, -1])
        self.assertEqual(answers([10, 1, 1, 0]), [1, -6])

    def test_several_calls(self):
        self.assertEqual(answers(MANY), TOLD)

    def test_all_eleven_calls(self):
        self.assertEqual(answers(ELEVEN), ELEVEN_TOLD)

    def test_toads_frogs_and_free_stones_in_their_order(self):
        # Where none of the three is 0, the count is the same in whatever order they stand.
        self.assertEqual(answers([10, 1, 2, 0, 10, 0, 1, 2, 10, 2, 0, 1]), [1, -6, 1, 2, 1, 2])

    def test_forty_calls_and_the_longest_rows_to_read(self):
        told = answers(([0, 20] + [4294967295] * 20) * 40)
        self.assertEqual(told, [1, -1] * 40)

    def test_forty_calls_on_nine_stones_with_eight_that_search(self):
        row = [1, 1, 1, 0, 0, 0, 2, 2, 2]
        back = [9] + row[::-1]
        searches = [6, 7, 8, 4] + back + [5] + back + [9] + back + [9] + back + [10, 3, 3, 3]
        told = answers([0, 9] + row + searches + [3] * 31)
        shown = [10, 9] + row
        self.assertEqual(told[:4], [1, 2, 1, 1400])
        self.assertEqual(told[-31 * len(shown):], shown * 31)

    def test_eight_searches_refused(self):
        self.assertEqual(answers([9, 0] * 8), [1, -1] * 8)
        self.assertEqual(answers([10, 4294967295, 4294967295, 4294967295] * 8), [1, -1] * 8)

    def test_by_the_name_of_the_module(self):
        self.assertEqual(toadsfrogs.stones.answers([2]), [3, 2, 0, 2])

    def test_numbers_in_rows_are_not_taken_for_calls(self):
        self.assertEqual(answers([0, 3, 2, 3, 3, 3]), [1, -1, 4, 3, 1, 0, 2])
        self.assertEqual(answers([1, 3, 3]), [1, -1, 4, 3, 1, 0, 2])
        self.assertEqual(answers([9, 2, 3, 3, 3]), [1, -1, 4, 3, 1, 0, 2])
        self.assertEqual(answers([10, 3, 3, 3, 3]), [1, 27, 4, 3, 1, 0, 2])


class NothingChangedOrKept(unittest.TestCase):
    def test_what_is_handed_in_is_as_it_was(self):
        for given in (MANY, ELEVEN):
            calls = list(given)
            answers(calls)
            self.assertEqual(calls, given)
            self.assertEqual({type(number) for number in calls}, {int})

    def test_the_same_twice(self):
        for given, told in ((MANY, TOLD), (ELEVEN, ELEVEN_TOLD)):
            calls = list(given)
            self.assertEqual(answers(calls), told)
            self.assertEqual(answers(calls), told)

    def test_each_time_the_row_is_new(self):
        answers([0, 2, 1, 0])
        self.assertEqual(answers([3]), [4, 3, 1, 0, 2])
        answers([1, 0])
        self.assertEqual(answers([3]), [4, 3, 1, 0, 2])
        answers([0, 1, 1, 6, 7, 8])
        self.assertEqual(answers([6, 7, 8]), [1, 6, 4, 1, 2, 0, 1, 4, 3, 0, 2, 1])

    def test_searches_leave_the_row_held(self):
        for search in ([4, 3, 2, 0, 1], [5, 3, 2, 0, 1], [6], [7], [8], [9, 3, 2, 0, 1], [10, 3, 3, 1]):
            told = answers(search + [3, 2])
            self.assertEqual(told[-9:], [4, 3, 1, 0, 2, 3, 2, 0, 2], search)

    def test_what_is_given_back_is_a_list_of_its_own(self):
        first = answers(ELEVEN)
        first.clear()
        self.assertEqual(answers(ELEVEN), ELEVEN_TOLD)

    def test_kinds(self):
        for given in (MANY, ELEVEN):
            told = answers(given)
            self.assertIs(type(told), list)
            self.assertEqual({type(number) for number in told}, {int})

    def test_prints_nothing(self):
        out = io.StringIO()
        with contextlib.redirect_stdout(out), contextlib.redirect_stderr(out):
            answers(MANY)
            answers(ELEVEN)
        self.assertEqual(out.getvalue(), "")


class Reading(unittest.TestCase):
    def test_every_call_has_its_place(self):
        parts = [
            [0, 2, 1, 0], [1, 7], [2], [3], [4, 1, 9], [5, 0], [6], [7], [8], [9, 3, 1, 0, 2], [10, 4, 1, 4],
            [6], [10, 0, 0, 0], [9, 0], [8], [0, 0], [7],
        ]
        self.assertEqual(split_calls(sum(parts, [])), parts)


if __name__ == "__main__":
    unittest.main()
