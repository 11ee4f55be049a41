"""Point 3 as far as it speaks of safe, and what safe answers."""

import unittest

from helper import all_rows, ask, ask_last, slow_comes, slow_moves, slow_ways

BIG = 4294967295
LONG_ROWS = (
    (1, 1, 1, 1, 0, 2, 2, 2, 2),
    (1, 1, 1, 0, 0, 0, 2, 2, 2),
    (1, 0, 2, 1, 0, 2, 0, 1, 2),
)


class SafeAnswers(unittest.TestCase):
    def test_the_row_held_itself(self):
        self.assertEqual(ask_last(("safe", 1, 0, 2)), [0])
        self.assertEqual(ask_last(("row", 2), ("safe", 2)), [0])
        self.assertEqual(ask_last(("row", 2, 0, 1), ("safe", 2, 0, 1)), [0])

    def test_one_move_away(self):
        self.assertEqual(ask_last(("safe", 0, 1, 2)), [1, 0])
        self.assertEqual(ask_last(("safe", 1, 2, 0)), [1, 2])
        self.assertEqual(ask_last(("row", 0, 1, 2), ("safe", 2, 1, 0)), [1, 2])

    def test_all_the_moves_lead_there(self):
        self.assertEqual(ask_last(("safe", 2, 0, 1)), [2, 0, 2])
        self.assertEqual(ask_last(("row", 1, 0, 0, 1, 0, 2), ("safe", 0, 1, 2, 0, 1, 0)), [3, 0, 3, 5])

    def test_some_of_the_moves_lead_there(self):
        self.assertEqual(ask_last(("row", 1, 0, 1, 2), ("safe", 2, 0, 1, 1)), [1, 3])
        self.assertEqual(ask_last(("row", 1, 2, 0, 2), ("safe", 2, 2, 0, 1)), [1, 0])
        self.assertEqual(ask_last(("row", 1, 0, 0, 0, 2), ("safe", 0, 0, 1, 0, 2)), [1, 0])
        self.assertEqual(ask_last(("row", 1, 0, 0, 1, 0, 2), ("safe", 0, 1, 0, 0, 2, 1)), [2, 0, 5])

    def test_it_cant_come(self):
        self.assertEqual(ask_last(("safe", 2, 1, 1)), [0])
        self.assertEqual(ask_last(("safe", 0, 0, 0)), [0])
        self.assertEqual(ask_last(("move", 0), ("safe", 1, 0, 2)), [0])
        self.assertEqual(ask_last(("row", 1, 1, 0, 2), ("safe", 2, 1, 1, 0)), [0])
        self.assertEqual(ask_last(("row", 2, 0, 1), ("safe", 1, 0, 2)), [0])

    def test_behind_move(self):
        self.assertEqual(ask_last(("move", 2), ("safe", 2, 0, 1)), [1, 0])

    def test_the_row_held_stays(self):
        told = ask(("safe", 2, 0, 1), ("shows",), ("moves",), ("safe", 2, 0, 1))
        self.assertEqual(told, [[2, 0, 2], [3, 1, 0, 2], [2, 0, 2], [2, 0, 2]])

    def test_every_row_to_every_row_up_to_four_stones(self):
        for length in range(1, 5):
            for row in all_rows(length):
                ways = slow_ways(row)
                begun = {then: sorted({way[0] for way, _ in some if way}) for then, some in ways.items()}
                self.check_targets(row, all_rows(length), begun)

    def test_nine_stones(self):
        for row in LONG_ROWS:
            begun = {}
            for stone, (_, after) in slow_moves(row).items():
                for then in slow_comes(after):
                    begun.setdefault(then, []).append(stone)
            self.check_targets(row, slow_comes(row)[::11] + [row, row[::-1]], begun)

    def check_targets(self, row, targets, begun):
        for start in range(0, len(targets), 8):
            some = targets[start:start + 8]
            told = ask(("row",) + row, *[("safe",) + target for target in some])[1:]
            for target, answer in zip(some, told, strict=True):
                leading = begun.get(target, [])
                self.assertEqual(answer, [len(leading), *leading], (row, target))


class SafeRefuses(unittest.TestCase):
    def refused(self, *stones):
        told = ask(("row", 1, 1, 0, 2), ("safe",) + stones, ("shows",), ("moves",))
        self.assertEqual(told[1:], [[-1], [4, 1, 1, 0, 2], [2, 1, 3]])

    def test_no_stones(self):
        self.refused()

    def test_too_few_stones(self):
        self.refused(1)
        self.refused(1, 1, 0)

    def test_too_many_stones(self):
        self.refused(1, 1, 0, 2, 0)
        self.refused(*([0] * 10))
        self.refused(*([0] * 20))

    def test_a_stone_above_2(self):
        self.refused(1, 1, 0, 3)
        self.refused(3, 1, 0, 2)
        self.refused(1, BIG, 0, 2)
        self.refused(*([BIG] * 20))

    def test_where_the_row_held_is_stuck(self):
        self.assertEqual(ask_last(("row", 1), ("safe", 3)), [-1])
        self.assertEqual(ask_last(("row", 1), ("safe",)), [-1])
        self.assertEqual(ask_last(("row", 1), ("safe", 1, 0)), [-1])


if __name__ == "__main__":
    unittest.main()
