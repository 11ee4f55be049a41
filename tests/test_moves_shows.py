"""What moves and shows answer."""

import unittest

from helper import all_rows, ask, slow_moves


class MovesAndShows(unittest.TestCase):
    def test_at_the_beginning(self):
        self.assertEqual(ask(("moves",), ("shows",)), [[2, 0, 2], [3, 1, 0, 2]])

    def test_behind_row(self):
        told = ask(("row", 1, 0, 0, 1, 0, 2), ("moves",), ("shows",))
        self.assertEqual(told[1:], [[3, 0, 3, 5], [6, 1, 0, 0, 1, 0, 2]])

    def test_behind_move(self):
        told = ask(("move", 2), ("moves",), ("shows",), ("move", 0), ("moves",), ("shows",))
        self.assertEqual(told[1:3], [[1, 0], [3, 1, 2, 0]])
        self.assertEqual(told[4:], [[1, 1], [3, 0, 2, 1]])

    def test_behind_a_refusal(self):
        told = ask(("move", 1), ("moves",), ("row", 5), ("moves",), ("shows",))
        self.assertEqual(told, [[-4], [2, 0, 2], [-1], [2, 0, 2], [3, 1, 0, 2]])

    def test_stuck(self):
        told = ask(("row", 1, 1, 2, 2, 0), ("moves",), ("shows",))
        self.assertEqual(told, [[0], [0], [5, 1, 1, 2, 2, 0]])
        told = ask(("row", 2, 0, 1), ("moves",), ("shows",))
        self.assertEqual(told, [[0], [0], [3, 2, 0, 1]])

    def test_one_stone(self):
        for kind in (0, 1, 2):
            self.assertEqual(ask(("row", kind), ("moves",), ("shows",)), [[0], [0], [1, kind]])

    def test_they_change_nothing(self):
        told = ask(("moves",), ("shows",), ("moves",), ("shows",))
        self.assertEqual(told[:2], told[2:])

    def test_every_row_of_nine_stones(self):
        for row in all_rows(9):
            told = ask(("row",) + row, ("moves",), ("shows",))
            can = list(slow_moves(row))
            self.assertEqual(told, [[len(can)], [len(can), *can], [9, *row]])


if __name__ == "__main__":
    unittest.main()
