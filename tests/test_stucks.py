"""What stucks answers."""

import unittest

from helper import all_rows, ask, ask_last, slow_comes, slow_moves

LONG_ROWS = (
    (1, 1, 1, 1, 0, 2, 2, 2, 2),
    (1, 1, 1, 0, 0, 0, 2, 2, 2),
    (1, 0, 2, 1, 0, 2, 0, 1, 2),
    (1, 1, 2, 1, 0, 2, 1, 2, 2),
)


def expected(row):
    stuck = [then for then in slow_comes(row) if not slow_moves(then)]
    return [len(stuck), *stuck[0]]


class StucksAnswers(unittest.TestCase):
    def test_at_the_beginning(self):
        self.assertEqual(ask(("stucks",)), [[1, 2, 0, 1]])

    def test_a_row_that_is_stuck_itself(self):
        self.assertEqual(ask_last(("row", 2, 0, 1), ("stucks",)), [1, 2, 0, 1])
        self.assertEqual(ask_last(("row", 1, 1, 2, 2, 0), ("stucks",)), [1, 1, 1, 2, 2, 0])
        self.assertEqual(ask_last(("row",) + (2,) * 9, ("stucks",)), [1] + [2] * 9)

    def test_one_stone(self):
        for kind in (0, 1, 2):
            self.assertEqual(ask_last(("row", kind), ("stucks",)), [1, kind])

    def test_the_first_is_not_the_first_that_is_met(self):
        # The lower move, stone 0, leads to 2 0 1 1 2 alone, the upper one to 1 2 2 0 1; both take two moves.
        self.assertEqual(ask_last(("row", 1, 2, 0, 1, 2), ("stucks",)), [2, 1, 2, 2, 0, 1])
        # The row that takes the most moves is not always the last in order.
        self.assertEqual(ask_last(("row", 1, 2, 0, 2), ("stucks",)), [2, 1, 2, 2, 0])

    def test_free_ahead_of_a_toad_ahead_of_a_frog(self):
        self.assertEqual(ask_last(("row", 1, 0, 1, 2), ("stucks",)), [2, 0, 1, 1, 2])
        self.assertEqual(ask_last(("row", 1, 1, 0, 2, 2), ("stucks",)), [5, 0, 1, 1, 2, 2])
        self.assertEqual(ask_last(("row", 1, 1, 2, 0, 2), ("stucks",)), [4, 1, 1, 2, 2, 0])

    def test_behind_move(self):
        told = ask(("row", 1, 1, 0, 2, 2), ("move", 3), ("stucks",))
        self.assertEqual(told[-1], expected((1, 1, 2, 0, 2)))

    def test_every_row_up_to_six_stones(self):
        for length in range(1, 7):
            for row in all_rows(length):
                self.assertEqual(ask_last(("row",) + row, ("stucks",)), expected(row), row)

    def test_nine_stones(self):
        for row in LONG_ROWS:
            self.assertEqual(ask_last(("row",) + row, ("stucks",)), expected(row), row)

    def test_the_row_held_stays(self):
        told = ask(("row", 1, 1, 0, 2), ("stucks",), ("shows",), ("stucks",))
        self.assertEqual(told[1:], [[2, 0, 1, 1, 2], [4, 1, 1, 0, 2], [2, 0, 1, 1, 2]])


if __name__ == "__main__":
    unittest.main()
