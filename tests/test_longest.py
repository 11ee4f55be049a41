"""What longest answers."""

import unittest

from helper import all_rows, ask, ask_last, slow_longest, slow_ways

LONG_ROWS = (
    (1, 1, 1, 1, 0, 2, 2, 2, 2),
    (1, 1, 1, 0, 0, 0, 2, 2, 2),
    (1, 0, 2, 1, 0, 2, 0, 1, 2),
    (1, 1, 2, 1, 0, 2, 1, 2, 2),
)


def expected(row):
    """Of all the ways there are, the first of the longest."""
    ways = [way for some in slow_ways(row).values() for way, _ in some]
    most = max(len(way) for way in ways)
    return [most, *min(way for way in ways if len(way) == most)]


class LongestAnswers(unittest.TestCase):
    def test_at_the_beginning(self):
        self.assertEqual(ask(("longest",)), [[3, 0, 2, 1]])

    def test_stuck(self):
        self.assertEqual(ask_last(("row", 2, 0, 1), ("longest",)), [0])
        self.assertEqual(ask_last(("row", 1, 1, 2, 2, 0), ("longest",)), [0])
        self.assertEqual(ask_last(("row",) + (0,) * 9, ("longest",)), [0])

    def test_one_stone(self):
        for kind in (0, 1, 2):
            self.assertEqual(ask_last(("row", kind), ("longest",)), [0])

    def test_the_first_of_several(self):
        self.assertEqual(ask_last(("row", 1, 0, 2, 2), ("longest",)), [5, 0, 2, 1, 3, 2])
        self.assertEqual(ask_last(("row", 1, 2, 0, 1, 2), ("longest",)), [2, 0, 1])

    def test_a_way_that_begins_lower_is_shorter(self):
        self.assertEqual(ask_last(("row", 1, 0, 1, 2), ("longest",)), [4, 3, 2, 0, 1])
        self.assertEqual(ask_last(("row", 1, 2, 1, 0, 2), ("longest",)), [6, 4, 2, 0, 1, 3, 2])

    def test_a_way_that_goes_on_lower_is_shorter(self):
        self.assertEqual(ask_last(("row", 1, 1, 0, 2), ("longest",)), [5, 1, 3, 2, 0, 1])

    def test_behind_move(self):
        self.assertEqual(ask_last(("move", 2), ("longest",)), [2, 0, 1])

    def test_the_way_can_be_gone_and_ends_stuck(self):
        row = ("row", 1, 1, 1, 0, 0, 0, 2, 2, 2)
        way = ask_last(row, ("longest",))
        self.assertEqual(way[0], 27)
        told = ask(row, *[("move", stone) for stone in way[1:]], ("moves",))
        self.assertEqual(len(told), 29)
        self.assertTrue(all(answer[0] > 0 for answer in told[:-1]))
        self.assertEqual(told[-1], [0])

    def test_every_row_up_to_five_stones(self):
        for length in range(1, 6):
            for row in all_rows(length):
                self.assertEqual(ask_last(("row",) + row, ("longest",)), expected(row), row)

    def test_every_row_of_six_stones(self):
        known = {}
        for row in all_rows(6):
            way = slow_longest(row, known)
            self.assertEqual(ask_last(("row",) + row, ("longest",)), [len(way), *way], row)

    def test_nine_stones(self):
        for row in LONG_ROWS:
            way = slow_longest(row, {})
            self.assertEqual(ask_last(("row",) + row, ("longest",)), [len(way), *way], row)

    def test_the_row_held_stays(self):
        told = ask(("row", 1, 0, 1, 2), ("longest",), ("shows",), ("longest",))
        self.assertEqual(told[1:], [[4, 3, 2, 0, 1], [4, 1, 0, 1, 2], [4, 3, 2, 0, 1]])


if __name__ == "__main__":
    unittest.main()
