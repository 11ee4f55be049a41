"""What comes answers."""

import unittest

from helper import all_rows, ask, ask_last, slow_comes

LONG_ROWS = (
    (1, 1, 1, 1, 0, 2, 2, 2, 2),
    (1, 1, 1, 0, 0, 0, 2, 2, 2),
    (1, 0, 2, 1, 0, 2, 0, 1, 2),
    (1, 0, 0, 0, 0, 0, 0, 0, 2),
)


class ComesAnswers(unittest.TestCase):
    def test_at_the_beginning(self):
        self.assertEqual(ask(("comes",)), [[6]])

    def test_one_stone(self):
        for kind in (0, 1, 2):
            self.assertEqual(ask_last(("row", kind), ("comes",)), [1])

    def test_stuck(self):
        self.assertEqual(ask_last(("row", 2, 0, 1), ("comes",)), [1])
        self.assertEqual(ask_last(("row", 1, 1, 2, 2, 0), ("comes",)), [1])
        self.assertEqual(ask_last(("row", 0, 0, 0, 0, 0, 0, 0, 0, 0), ("comes",)), [1])

    def test_a_row_that_comes_in_several_ways_counts_once(self):
        self.assertEqual(ask_last(("row", 1, 0, 0, 2), ("comes",)), [12])
        self.assertEqual(len(slow_comes((1, 0, 0, 2))), 12)

    def test_nine_stones(self):
        self.assertEqual(ask_last(("row", 1, 0, 0, 0, 0, 0, 0, 0, 0), ("comes",)), [9])
        self.assertEqual(ask_last(("row", 1, 1, 1, 0, 0, 0, 2, 2, 2), ("comes",)), [1400])
        for row in LONG_ROWS:
            self.assertEqual(ask_last(("row",) + row, ("comes",)), [len(slow_comes(row))], row)

    def test_behind_move(self):
        told = ask(("move", 0), ("comes",), ("move", 2), ("comes",), ("move", 1), ("comes",))
        self.assertEqual(told[1::2], [[3], [2], [1]])

    def test_every_row_up_to_six_stones(self):
        for length in range(1, 7):
            for row in all_rows(length):
                self.assertEqual(ask_last(("row",) + row, ("comes",)), [len(slow_comes(row))], row)

    def test_the_row_held_stays(self):
        told = ask(("row", 1, 1, 0, 2), ("comes",), ("shows",), ("comes",))
        self.assertEqual(told[1:], [[11], [4, 1, 1, 0, 2], [11]])


if __name__ == "__main__":
    unittest.main()
