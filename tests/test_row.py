"""Point 1, and what row answers."""

import unittest

from helper import all_rows, ask, ask_last, slow_moves

BIG = 4294967295


class RowAnswers(unittest.TestCase):
    def test_one_stone(self):
        for kind in (0, 1, 2):
            self.assertEqual(ask(("row", kind), ("shows",)), [[0], [1, kind]])

    def test_nine_stones(self):
        stones = (1, 1, 1, 1, 0, 2, 2, 2, 2)
        self.assertEqual(ask(("row",) + stones, ("shows",)), [[2], [9, *stones]])

    def test_steps_and_leaps_are_both_counted(self):
        self.assertEqual(ask_last(("row", 1, 2, 0, 2)), [2])
        self.assertEqual(ask_last(("row", 1, 0, 0, 1, 0, 2)), [3])

    def test_all_free_and_all_taken(self):
        self.assertEqual(ask_last(("row", 0, 0, 0)), [0])
        self.assertEqual(ask_last(("row", 1, 1, 1)), [0])
        self.assertEqual(ask_last(("row", 2, 2, 2)), [0])

    def test_the_last_row_is_held(self):
        self.assertEqual(ask_last(("row", 1, 0), ("row", 0, 0, 2), ("shows",)), [3, 0, 0, 2])

    def test_every_row_up_to_six_stones(self):
        for length in range(1, 7):
            for row in all_rows(length):
                self.assertEqual(ask_last(("row",) + row), [len(slow_moves(row))], row)


class RowRefuses(unittest.TestCase):
    def refused(self, *stones):
        told = ask(("row", 0, 1, 1, 0), ("row",) + stones, ("shows",))
        self.assertEqual(told, [[1], [-1], [4, 0, 1, 1, 0]])
        self.assertEqual(ask(("row",) + stones, ("shows",)), [[-1], [3, 1, 0, 2]])

    def test_no_stones(self):
        self.refused()

    def test_too_many_stones(self):
        self.refused(*([0] * 10))
        self.refused(*([1, 0] * 10))

    def test_a_stone_above_2(self):
        self.refused(3)
        self.refused(BIG)
        self.refused(3, 0, 2)
        self.refused(1, 0, 3)
        self.refused(1, BIG, 2)

    def test_both_faults_at_once(self):
        self.refused(*([BIG] * 20))


if __name__ == "__main__":
    unittest.main()
