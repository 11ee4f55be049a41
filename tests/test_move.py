"""Point 2, and what move answers."""

import unittest

from helper import all_rows, ask, ask_last, slow_moves

BIG = 4294967295


class MoveAnswers(unittest.TestCase):
    def made(self, stones, stone, answer):
        told = ask(("row",) + stones, ("move", stone), ("shows",))
        self.assertEqual(told[1], answer)
        self.assertEqual(told[2], [len(stones)] + answer[1:])

    def test_at_the_beginning(self):
        self.assertEqual(ask(("move", 0), ("shows",)), [[1, 0, 1, 2], [3, 0, 1, 2]])
        self.assertEqual(ask(("move", 2), ("shows",)), [[1, 1, 2, 0], [3, 1, 2, 0]])

    def test_a_toad_steps(self):
        self.made((1, 0, 2, 2), 0, [1, 0, 1, 2, 2])
        self.made((2, 2, 1, 0), 2, [1, 2, 2, 0, 1])

    def test_a_toad_leaps(self):
        self.made((1, 2, 0, 1), 0, [2, 0, 2, 1, 1])
        self.made((2, 1, 2, 0), 1, [2, 2, 0, 2, 1])

    def test_a_frog_steps(self):
        self.made((1, 1, 0, 2), 3, [1, 1, 1, 2, 0])
        self.made((0, 2, 1, 1), 1, [1, 2, 0, 1, 1])

    def test_a_frog_leaps(self):
        self.made((2, 0, 1, 2), 3, [2, 2, 2, 1, 0])
        self.made((0, 1, 2, 1), 2, [2, 2, 1, 0, 1])

    def test_moves_one_behind_another(self):
        told = ask(("move", 0), ("move", 2), ("move", 1), ("shows",))
        self.assertEqual(told, [[1, 0, 1, 2], [2, 2, 1, 0], [1, 2, 0, 1], [3, 2, 0, 1]])

    def test_every_stone_of_every_row_up_to_five(self):
        for length in range(1, 6):
            for row in all_rows(length):
                self.check_every_stone(row)

    def check_every_stone(self, row):
        can = slow_moves(row)
        for stone in range(len(row) + 1):
            told = ask(("row",) + row, ("move", stone), ("shows",))
            if stone in can:
                self.assertEqual(told[1:], [[can[stone][0], *can[stone][1]], [len(row), *can[stone][1]]])
            else:
                refusal = -1 if stone == len(row) else -4 if row[stone] == 0 else -2
                self.assertEqual(told[1:], [[refusal], [len(row), *row]])


class MoveRefuses(unittest.TestCase):
    def refused(self, stones, stone, refusal):
        told = ask(("row",) + stones, ("move", stone), ("shows",))
        self.assertEqual(told[1:], [[refusal], [len(stones), *stones]])

    def test_no_such_stone(self):
        self.assertEqual(ask(("move", 3), ("move", BIG), ("shows",)), [[-1], [-1], [3, 1, 0, 2]])
        self.refused((1,), 1, -1)
        self.refused((1, 1, 1, 1, 0, 2, 2, 2, 2), 9, -1)
        self.refused((1, 1, 1, 1, 0, 2, 2, 2, 2), BIG, -1)

    def test_a_free_stone(self):
        self.assertEqual(ask_last(("move", 1)), [-4])
        self.refused((0,), 0, -4)
        self.refused((0, 0, 0), 2, -4)

    def test_no_free_stone_ahead(self):
        self.refused((1, 1, 0), 0, -2)
        self.refused((0, 2, 2), 2, -2)
        self.refused((1, 2, 1), 0, -2)
        self.refused((2, 1, 2), 2, -2)

    def test_none_leaps_over_its_own_kind(self):
        self.refused((1, 1, 0, 0), 0, -2)
        self.refused((0, 0, 2, 2), 3, -2)

    def test_none_leaps_over_two(self):
        self.refused((1, 2, 2, 0), 0, -2)
        self.refused((0, 1, 1, 2), 3, -2)

    def test_none_goes_back(self):
        self.refused((0, 1), 1, -2)
        self.refused((2, 0), 0, -2)
        self.refused((0, 2, 1), 2, -2)
        self.refused((2, 1, 0), 0, -2)

    def test_none_leaves_the_row_or_comes_round(self):
        self.refused((1,), 0, -2)
        self.refused((2,), 0, -2)
        self.refused((0, 0, 1), 2, -2)
        self.refused((2, 0, 0), 0, -2)
        self.refused((0, 1, 2), 1, -2)
        self.refused((1, 2, 0), 1, -2)


if __name__ == "__main__":
    unittest.main()
