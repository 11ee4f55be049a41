"""Point 4, and what sides answers."""

import unittest

from helper import ask, ask_last, slow_comes

BIG = 4294967295


def triples(most):
    return [
        (toads, frogs, free)
        for toads in range(most + 1)
        for frogs in range(most + 1 - toads)
        for free in range(most + 1 - toads - frogs)
        if toads + frogs + free > 0
    ]


def expected(toads, frogs, free):
    # Each toad goes on by all frogs and free stones, each frog by all toads and free stones;
    # each meeting of a toad and a frog is one leap, which saves a move.
    start = (1,) * toads + (0,) * free + (2,) * frogs
    end = (2,) * frogs + (0,) * free + (1,) * toads
    if end not in slow_comes(start):
        return [-6]
    return [toads * (frogs + free) + frogs * (toads + free) - toads * frogs]


class SidesAnswers(unittest.TestCase):
    def test_one_free_stone(self):
        for toads in range(9):
            for frogs in range(9 - toads):
                told = ask_last(("sides", toads, frogs, 1))
                self.assertEqual(told, [toads * frogs + toads + frogs], (toads, frogs))

    def test_known_ones(self):
        self.assertEqual(ask_last(("sides", 1, 1, 1)), [3])
        self.assertEqual(ask_last(("sides", 3, 3, 1)), [15])
        self.assertEqual(ask_last(("sides", 4, 4, 1)), [24])
        self.assertEqual(ask_last(("sides", 1, 2, 1)), [5])
        self.assertEqual(ask_last(("sides", 3, 3, 3)), [27])

    def test_no_toads(self):
        self.assertEqual(ask_last(("sides", 0, 2, 3)), [6])
        self.assertEqual(ask_last(("sides", 0, 1, 8)), [8])
        self.assertEqual(ask_last(("sides", 0, 9, 0)), [0])

    def test_no_frogs(self):
        self.assertEqual(ask_last(("sides", 2, 0, 3)), [6])
        self.assertEqual(ask_last(("sides", 1, 0, 8)), [8])
        self.assertEqual(ask_last(("sides", 9, 0, 0)), [0])

    def test_free_stones_alone(self):
        self.assertEqual(ask_last(("sides", 0, 0, 1)), [0])
        self.assertEqual(ask_last(("sides", 0, 0, 9)), [0])

    def test_toads_alone_and_frogs_alone_without_a_free_stone(self):
        self.assertEqual(ask_last(("sides", 1, 0, 0)), [0])
        self.assertEqual(ask_last(("sides", 0, 1, 0)), [0])

    def test_all_there_are(self):
        for toads, frogs, free in triples(9):
            told = ask_last(("sides", toads, frogs, free))
            self.assertEqual(told, expected(toads, frogs, free), (toads, frogs, free))

    def test_the_row_held_does_not_matter(self):
        self.assertEqual(ask_last(("row", 2), ("sides", 3, 3, 1)), [15])
        self.assertEqual(ask_last(("row", 1, 1, 0, 2), ("sides", 1, 1, 1)), [3])

    def test_the_row_held_stays(self):
        told = ask(("sides", 3, 3, 1), ("shows",), ("row", 1, 1, 0, 2), ("sides", 2, 1, 2), ("shows",), ("moves",))
        self.assertEqual(told[1], [3, 1, 0, 2])
        self.assertEqual(told[3:], [[8], [4, 1, 1, 0, 2], [2, 1, 3]])


class SidesRefuses(unittest.TestCase):
    def refused(self, toads, frogs, free, refusal):
        told = ask(("row", 1, 1, 0, 2), ("sides", toads, frogs, free), ("shows",), ("moves",))
        self.assertEqual(told[1:], [[refusal], [4, 1, 1, 0, 2], [2, 1, 3]])

    def test_it_cant_come(self):
        self.refused(1, 1, 0, -6)
        self.refused(2, 1, 0, -6)
        self.refused(4, 5, 0, -6)
        self.refused(1, 8, 0, -6)

    def test_one_above_9(self):
        for many in (10, BIG):
            self.refused(many, 0, 0, -1)
            self.refused(0, many, 0, -1)
            self.refused(0, 0, many, -1)
            self.refused(many, 1, 1, -1)
            self.refused(1, many, 1, -1)
            self.refused(1, 1, many, -1)

    def test_all_above_9(self):
        self.refused(10, 10, 10, -1)
        self.refused(BIG, BIG, BIG, -1)
        self.refused(BIG, BIG, 2, -1)

    def test_none_together(self):
        self.refused(0, 0, 0, -1)

    def test_more_than_9_together(self):
        self.refused(4, 5, 1, -1)
        self.refused(9, 1, 0, -1)
        self.refused(1, 9, 0, -1)
        self.refused(0, 1, 9, -1)
        self.refused(1, 0, 9, -1)
        self.refused(9, 9, 9, -1)

    def test_of_both_refusals_the_one_told_first(self):
        self.refused(5, 5, 0, -1)


if __name__ == "__main__":
    unittest.main()
