"""Dead ends, and B5's first half: a perfect garden of two squares and more has two of them at least."""

import unittest

from hedgeways.gardens import ends, perfect
from tests.drawings import (ALL_SIZES, SMALL_SIZES, all_gardens, dead_ends, draw, drawn, grown, scattered, sides,
                            snake_hedges, with_passages)


class WrittenOut(unittest.TestCase):
    def test_one_square(self):
        self.assertEqual(ends(drawn("+-+", "| |", "+-+")), [0])

    def test_two_squares(self):
        self.assertEqual(ends(drawn("+-+-+", "|   |", "+-+-+")), [0, 0, 1])
        self.assertEqual(ends(drawn("+-+-+", "| | |", "+-+-+")), [0])
        self.assertEqual(ends(drawn("+-+", "| |", "+ +", "| |", "+-+")), [0, 0, 1])
        self.assertEqual(ends(drawn("+-+", "| |", "+-+", "| |", "+-+")), [0])

    def test_row_of_squares(self):
        self.assertEqual(ends(draw(10, 1, ())), [0, 0, 9])
        self.assertEqual(ends(draw(1, 10, ())), [0, 0, 9])
        self.assertEqual(ends(drawn("+-+-+-+-+-+", "|     |   |", "+-+-+-+-+-+")), [0, 0, 2, 3, 4])
        self.assertEqual(ends(drawn("+-+-+-+-+-+", "|     | | |", "+-+-+-+-+-+")), [0, 0, 2])

    def test_garden_without_dead_ends(self):
        self.assertEqual(ends(draw(2, 2, ())), [0])
        ring = drawn("+-+-+-+", "|     |", "+ +-+ +", "| | | |", "+ +-+ +", "|     |", "+-+-+-+")
        self.assertEqual(ends(ring), [0])

    def test_every_inner_side_a_hedge(self):
        self.assertEqual(ends(draw(10, 10, range(180))), [0])

    def test_every_inner_side_a_passage(self):
        self.assertEqual(ends(draw(10, 10, ())), [0])

    def test_winding_way(self):
        self.assertEqual(ends(draw(10, 10, snake_hedges())), [0, 0, 90])

    def test_great_comb(self):
        # Upright passages in the last row alone, all level ones.
        self.assertEqual(ends(draw(10, 10, range(81))), [0] + list(range(10)))

    def test_at_the_borders_corner_at_the_border_and_within(self):
        # Each of the corner 0, the border's 1 and the inner 4 has one passage, to a square with two.
        self.assertEqual(ends(with_passages(3, 3, {(0, 3), (3, 6)})), [0, 0, 6])
        self.assertEqual(ends(with_passages(3, 3, {(1, 2), (2, 5)})), [0, 1, 5])
        self.assertEqual(ends(with_passages(3, 3, {(4, 7), (7, 8)})), [0, 4, 8])

    def test_each_pair_of_squares_by_itself(self):
        for wide, high in ((2, 2), (3, 3), (4, 3), (10, 10)):
            for pair in sides(wide, high):
                self.assertEqual(ends(with_passages(wide, high, {pair})), [0] + list(pair))

    def test_as_many_passages_as_a_square_can_have(self):
        # Of square 4 within 3 by 3: with no passage, two, three and four it is no dead end.
        around = ((1, 4), (4, 5), (4, 7), (3, 4))
        others = (1, 5, 7, 3)
        for choice in range(16):
            chosen = [k for k in range(4) if choice >> k & 1]
            expected = sorted([others[k] for k in chosen] + ([4] if len(chosen) == 1 else []))
            garden = with_passages(3, 3, {around[k] for k in chosen})
            self.assertEqual(ends(garden), [0] + expected, chosen)


class ByTheDocumentsWords(unittest.TestCase):
    def check(self, wide, high, hedges):
        garden = draw(wide, high, hedges)
        told = ends(garden)
        self.assertEqual(told, [0] + dead_ends(wide, high, hedges), bytes(garden))
        self.assertEqual(told[1:], sorted(set(told[1:])), bytes(garden))
        if wide * high > 1 and perfect(garden) == [0, 1]:
            self.assertGreaterEqual(len(told) - 1, 2, bytes(garden))

    def test_every_small_garden(self):
        for wide, high in SMALL_SIZES:
            for hedges in all_gardens(wide, high):
                self.check(wide, high, hedges)

    def test_gardens_of_every_size(self):
        for wide, high in ALL_SIZES:
            for share in range(9):
                self.check(wide, high, scattered(wide, high, share + 60, share))

    def test_perfect_gardens_of_every_size(self):
        for wide, high in ALL_SIZES:
            for seed in range(4):
                hedges = grown(wide, high, seed + 70)
                self.assertEqual(perfect(draw(wide, high, hedges)), [0, 1])
                self.check(wide, high, hedges)


if __name__ == "__main__":
    unittest.main()
