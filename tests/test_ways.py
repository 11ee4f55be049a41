"""Point 3 as far as it speaks of ways, and what ways answers."""

import unittest

from helper import all_rows, ask, ask_last, slow_ways

BIG = 4294967295
CLASSIC = (1, 1, 1, 0, 2, 2, 2)


class WaysAnswers(unittest.TestCase):
    def test_the_row_held_itself(self):
        self.assertEqual(ask_last(("ways", 1, 0, 2)), [1])
        self.assertEqual(ask_last(("row", 0), ("ways", 0)), [1])

    def test_several_ways(self):
        self.assertEqual(ask_last(("ways", 2, 0, 1)), [2])
        self.assertEqual(ask_last(("row", 1, 1, 0, 2), ("ways", 2, 0, 1, 1)), [3])
        self.assertEqual(ask_last(("row",) + CLASSIC, ("ways",) + CLASSIC[::-1]), [2])

    def test_many_ways(self):
        # A toad and a frog that do not meet: three steps of each, in any order.
        row = (1, 0, 0, 0, 0, 0, 0, 0, 2)
        self.assertEqual(ask_last(("row",) + row, ("ways", 0, 0, 0, 1, 0, 2, 0, 0, 0)), [20])

    def test_it_cant_come(self):
        self.assertEqual(ask_last(("ways", 2, 1, 1)), [0])
        self.assertEqual(ask_last(("ways", 0, 0, 0)), [0])
        self.assertEqual(ask_last(("move", 0), ("ways", 1, 0, 2)), [0])
        self.assertEqual(ask_last(("row", 1, 1, 0, 2), ("ways", 2, 1, 1, 0)), [0])

    def test_the_row_held_stays(self):
        self.assertEqual(ask(("ways", 2, 0, 1), ("shows",)), [[2], [3, 1, 0, 2]])

    def test_every_row_to_every_row_up_to_four_stones(self):
        for length in range(1, 5):
            for row in all_rows(length):
                self.check_all_targets(row, all_rows(length))

    def test_long_rows_to_all_that_can_come(self):
        for row in ((1, 1, 0, 0, 2, 2), CLASSIC, (1, 0, 2, 1, 0, 2, 0), (1, 1, 1, 1, 0, 2, 2, 2, 2)):
            self.check_all_targets(row, list(slow_ways(row)))

    def check_all_targets(self, row, targets):
        ways = slow_ways(row)
        for start in range(0, len(targets), 8):
            some = targets[start:start + 8]
            told = ask(("row",) + row, *[("ways",) + target for target in some])[1:]
            self.assertEqual(told, [[len(ways.get(target, []))] for target in some], (row, some))


class WaysRefuses(unittest.TestCase):
    def refused(self, *stones):
        told = ask(("row", 1, 1, 0, 2), ("ways",) + stones, ("shows",), ("moves",))
        self.assertEqual(told[1:], [[-1], [4, 1, 1, 0, 2], [2, 1, 3]])

    def test_not_as_many_stones(self):
        self.refused()
        self.refused(1)
        self.refused(1, 1, 0)
        self.refused(1, 1, 0, 2, 0)
        self.refused(*([0] * 10))
        self.refused(*([0] * 20))

    def test_a_stone_above_2(self):
        self.refused(1, 1, 0, 3)
        self.refused(3, 1, 0, 2)
        self.refused(1, BIG, 0, 2)
        self.refused(*([BIG] * 20))


if __name__ == "__main__":
    unittest.main()
