"""B4's first half: how far two squares are."""

import unittest

from hedgeways.gardens import far
from tests.drawings import (ALL_SIZES, SMALL_SIZES, all_gardens, draw, drawn, fewest_steps, grown, scattered,
                            side_count, snake_hedges)

AROUND_A_HEDGE = drawn(
    "+-+-+-+",
    "| |   |",
    "+ + + +",
    "| | | |",
    "+ + + +",
    "|   | |",
    "+-+-+-+")

SHORT_AND_LONG = drawn(
    "+-+-+-+-+",
    "|       |",
    "+ +-+ +-+",
    "| | |   |",
    "+ +-+-+ +",
    "|       |",
    "+-+-+-+-+")


class WrittenOut(unittest.TestCase):
    def both_ways(self, s, u, garden, answer):
        self.assertEqual(far(s, u, garden), answer, (s, u))
        self.assertEqual(far(u, s, garden), answer, (u, s))

    def test_from_a_square_to_itself(self):
        for wide, high in ALL_SIZES:
            every_side = range(side_count(wide, high))
            for hedges in ((), every_side, scattered(wide, high, 6, 5)):
                garden = draw(wide, high, hedges)
                for s in range(wide * high):
                    self.assertEqual(far(s, s, garden), [0, 0])

    def test_side_by_side(self):
        self.both_ways(0, 1, drawn("+-+-+", "|   |", "+-+-+"), [0, 1])
        self.both_ways(0, 1, drawn("+-+-+", "| | |", "+-+-+"), [-5])
        self.both_ways(0, 1, drawn("+-+", "| |", "+ +", "| |", "+-+"), [0, 1])
        self.both_ways(0, 1, drawn("+-+", "| |", "+-+", "| |", "+-+"), [-5])

    def test_last_of_a_row_and_first_of_the_next(self):
        garden = drawn("+-+-+", "|   |", "+-+-+", "|   |", "+-+-+")
        self.both_ways(1, 2, garden, [-5])
        self.both_ways(2, 3, garden, [0, 1])

    def test_slantwise(self):
        self.both_ways(0, 3, draw(2, 2, ()), [0, 2])
        self.both_ways(1, 2, draw(2, 2, ()), [0, 2])

    def test_way_around_a_hedge(self):
        self.both_ways(0, 1, AROUND_A_HEDGE, [0, 5])
        self.both_ways(0, 8, AROUND_A_HEDGE, [0, 8])
        self.both_ways(4, 5, AROUND_A_HEDGE, [0, 3])
        self.both_ways(0, 1, drawn("+-+-+", "| | |", "+ + +", "|   |", "+-+-+"), [0, 3])

    def test_shorter_of_two_ways(self):
        # 0 1 2 6 7 11 and 0 4 8 9 10 11 are as long; to 7 and to 10 one is shorter.
        self.both_ways(0, 11, SHORT_AND_LONG, [0, 5])
        self.both_ways(0, 7, SHORT_AND_LONG, [0, 4])
        self.both_ways(0, 10, SHORT_AND_LONG, [0, 4])
        self.both_ways(6, 9, SHORT_AND_LONG, [0, 4])
        self.both_ways(2, 8, SHORT_AND_LONG, [0, 4])
        self.both_ways(1, 10, SHORT_AND_LONG, [0, 5])
        self.both_ways(5, 0, SHORT_AND_LONG, [-5])

    def test_long_way_that_is_met_first(self):
        # From 0 to 4 the way by the upper side takes 7 steps, that by the lower side 1.
        garden = drawn("+-+-+-+-+", "|       |", "+ +-+-+ +", "|       |", "+-+-+-+-+")
        self.both_ways(0, 4, garden, [0, 1])
        self.both_ways(0, 5, garden, [0, 2])
        self.both_ways(1, 5, garden, [0, 3])
        self.both_ways(2, 6, garden, [0, 3])
        self.both_ways(0, 7, garden, [0, 4])

    def test_longest_way_that_squares_allow(self):
        garden = draw(10, 10, snake_hedges())
        self.both_ways(0, 90, garden, [0, 99])
        self.both_ways(0, 9, garden, [0, 9])
        self.both_ways(0, 10, garden, [0, 19])
        self.both_ways(9, 19, garden, [0, 1])

    def test_every_inner_side_a_passage(self):
        garden = draw(10, 10, ())
        for s in range(0, 100, 7):
            for u in range(100):
                steps = abs(s % 10 - u % 10) + abs(s // 10 - u // 10)
                self.both_ways(s, u, garden, [0, steps])

    def test_every_inner_side_a_hedge(self):
        garden = draw(10, 10, range(180))
        for s in range(0, 100, 7):
            for u in range(100):
                self.both_ways(s, u, garden, [0, 0] if s == u else [-5])


class ByTheDocumentsWords(unittest.TestCase):
    def check(self, wide, high, hedges, stride=1):
        garden = draw(wide, high, hedges)
        table = fewest_steps(wide, high, hedges)
        for s in range(0, wide * high, stride):
            for u in range(wide * high):
                expected = [0, table[s][u]] if u in table[s] else [-5]
                self.assertEqual(far(s, u, garden), expected, (s, u, bytes(garden)))
                self.assertEqual(far(u, s, garden), expected, (u, s, bytes(garden)))

    def test_every_small_garden(self):
        for wide, high in SMALL_SIZES[:-1]:
            for hedges in all_gardens(wide, high):
                if len(hedges) % 2 == 0 or wide * high < 8:
                    self.check(wide, high, hedges)

    def test_gardens_of_every_size(self):
        for wide, high in ALL_SIZES:
            self.check(wide, high, scattered(wide, high, 4, 3), stride=13)

    def test_perfect_gardens_of_every_size(self):
        for wide, high in ALL_SIZES:
            self.check(wide, high, grown(wide, high, 4), stride=17)

    def test_great_gardens(self):
        for share in (1, 2, 3, 4, 6):
            self.check(10, 10, scattered(10, 10, share + 20, share), stride=19)
        self.check(10, 10, snake_hedges(), stride=19)


if __name__ == "__main__":
    unittest.main()
