"""Point 3 as far as it speaks of to, and what to answers."""

import unittest

from helper import all_rows, ask, ask_last, slow_ways

BIG = 4294967295
CLASSIC = (1, 1, 1, 0, 2, 2, 2)
FOUR_A_SIDE = (1, 1, 1, 1, 0, 2, 2, 2, 2)


class ToAnswers(unittest.TestCase):
    def test_the_row_held_itself(self):
        self.assertEqual(ask_last(("to", 1, 0, 2)), [0, 0])
        self.assertEqual(ask_last(("row", 2), ("to", 2)), [0, 0])
        self.assertEqual(ask_last(("row",) + FOUR_A_SIDE, ("to",) + FOUR_A_SIDE), [0, 0])

    def test_one_move_away(self):
        self.assertEqual(ask_last(("to", 0, 1, 2)), [1, 0, 0])
        self.assertEqual(ask_last(("row", 0, 1, 2), ("to", 2, 1, 0)), [1, 1, 2])

    def test_the_first_of_two_ways(self):
        self.assertEqual(ask_last(("to", 2, 0, 1)), [3, 1, 0, 2, 1])

    def test_the_first_of_many_ways(self):
        self.assertEqual(ask_last(("row", 1, 0, 0, 0, 2), ("to", 0, 1, 0, 2, 0)), [2, 0, 0, 4])
        self.assertEqual(ask_last(("row", 1, 1, 0, 2), ("to", 2, 0, 1, 1)), [5, 2, 1, 3, 2, 0, 1])
        self.assertEqual(ask_last(("row", 1, 1, 0, 2, 2), ("to", 2, 2, 0, 1, 1)), [8, 4, 1, 3, 4, 2, 0, 1, 3, 2])

    def test_changing_sides_takes_ab_and_a_and_b_moves(self):
        told = ask_last(("row",) + CLASSIC, ("to",) + CLASSIC[::-1])
        self.assertEqual(told[:2], [15, 9])
        self.assertEqual(len(told), 17)
        told = ask_last(("row",) + FOUR_A_SIDE, ("to",) + FOUR_A_SIDE[::-1])
        self.assertEqual(told[:2], [24, 16])
        self.assertEqual(len(told), 26)

    def test_the_way_leads_there(self):
        way = ask_last(("row",) + CLASSIC, ("to",) + CLASSIC[::-1])[2:]
        told = ask(("row",) + CLASSIC, *[("move", stone) for stone in way])
        self.assertEqual(sum(answer[0] == 2 for answer in told[1:]), 9)
        self.assertEqual(told[-1][1:], list(CLASSIC[::-1]))

    def test_from_the_row_behind_move(self):
        self.assertEqual(ask_last(("move", 2), ("to", 2, 0, 1)), [2, 1, 0, 1])

    def test_the_row_held_stays(self):
        self.assertEqual(ask(("to", 2, 0, 1), ("shows",)), [[3, 1, 0, 2, 1], [3, 1, 0, 2]])

    def test_every_row_to_every_row_up_to_four_stones(self):
        for length in range(1, 5):
            for row in all_rows(length):
                self.check_all_targets(row, all_rows(length))

    def test_long_rows_to_all_that_can_come(self):
        for row in ((1, 1, 0, 0, 2, 2), CLASSIC, (1, 0, 2, 1, 0, 2, 0), FOUR_A_SIDE):
            self.check_all_targets(row, list(slow_ways(row)))

    def check_all_targets(self, row, targets):
        ways = slow_ways(row)
        for start in range(0, len(targets), 8):
            some = targets[start:start + 8]
            told = ask(("row",) + row, *[("to",) + target for target in some])[1:]
            for target, answer in zip(some, told, strict=True):
                self.assertEqual(answer, expected(ways, target), (row, target))


def expected(ways, target):
    if target not in ways:
        return [-6]
    way, leaps = min(ways[target])
    return [len(way), leaps, *way]


class ToRefuses(unittest.TestCase):
    def refused(self, stones, refusal):
        told = ask(("row", 1, 1, 0, 2), ("to",) + stones, ("shows",), ("moves",))
        self.assertEqual(told[1:], [[refusal], [4, 1, 1, 0, 2], [2, 1, 3]])

    def test_it_cant_come(self):
        self.refused((2, 1, 1, 0), -6)

    def test_other_toads_and_frogs_cant_come(self):
        self.refused((0, 0, 0, 0), -6)
        self.refused((1, 1, 2, 2), -6)
        self.refused((1, 0, 0, 2), -6)

    def test_what_was_cant_come(self):
        self.assertEqual(ask_last(("move", 0), ("to", 1, 0, 2)), [-6])

    def test_not_as_many_stones(self):
        self.refused((), -1)
        self.refused((1,), -1)
        self.refused((1, 1, 0), -1)
        self.refused((1, 1, 0, 2, 0), -1)
        self.refused((0,) * 10, -1)
        self.refused((0,) * 20, -1)

    def test_a_stone_above_2(self):
        self.refused((1, 1, 0, 3), -1)
        self.refused((3, 1, 0, 2), -1)
        self.refused((1, BIG, 0, 2), -1)
        self.refused((BIG,) * 20, -1)


if __name__ == "__main__":
    unittest.main()
