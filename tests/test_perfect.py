"""B3: a garden is perfect just if there's just one way between any two squares."""

import unittest

from hedgeways.gardens import perfect, rooms
from tests.drawings import (ALL_SIZES, SMALL_SIZES, all_gardens, draw, drawn, grown, has_just_one_way, scattered,
                            side_count, snake_hedges)

PERFECT = [0, 1]
NOT_PERFECT = [0, 0]


class WrittenOut(unittest.TestCase):
    def test_one_square(self):
        self.assertEqual(perfect(drawn("+-+", "| |", "+-+")), PERFECT)

    def test_one_row(self):
        self.assertEqual(perfect(drawn("+-+-+-+", "|     |", "+-+-+-+")), PERFECT)
        self.assertEqual(perfect(drawn("+-+-+-+", "| |   |", "+-+-+-+")), NOT_PERFECT)
        self.assertEqual(perfect(drawn("+-+-+-+", "|   | |", "+-+-+-+")), NOT_PERFECT)

    def test_one_column(self):
        self.assertEqual(perfect(drawn("+-+", "| |", "+ +", "| |", "+ +", "| |", "+-+")), PERFECT)
        self.assertEqual(perfect(drawn("+-+", "| |", "+-+", "| |", "+ +", "| |", "+-+")), NOT_PERFECT)
        self.assertEqual(perfect(drawn("+-+", "| |", "+ +", "| |", "+-+", "| |", "+-+")), NOT_PERFECT)

    def test_longest_row_and_column(self):
        self.assertEqual(perfect(draw(10, 1, ())), PERFECT)
        self.assertEqual(perfect(draw(1, 10, ())), PERFECT)
        for number in range(9):
            self.assertEqual(perfect(draw(10, 1, (number,))), NOT_PERFECT)
            self.assertEqual(perfect(draw(1, 10, (number,))), NOT_PERFECT)

    def test_one_room_and_no_ring(self):
        garden = drawn("+-+-+", "| | |", "+ + +", "|   |", "+-+-+")
        self.assertEqual(rooms(garden), [0, 1, 0, 0])
        self.assertEqual(perfect(garden), PERFECT)

    def test_one_room_and_a_ring(self):
        garden = drawn("+-+-+", "|   |", "+ + +", "|   |", "+-+-+")
        self.assertEqual(rooms(garden), [0, 1, 1, 1])
        self.assertEqual(perfect(garden), NOT_PERFECT)

    def test_two_rooms_and_no_ring(self):
        garden = drawn("+-+-+", "| | |", "+ + +", "| | |", "+-+-+")
        self.assertEqual(rooms(garden), [0, 2, 0, 0])
        self.assertEqual(perfect(garden), NOT_PERFECT)

    def test_two_rooms_and_a_ring(self):
        # 6 squares and 5 passages, as many as one room without a ring would have.
        garden = drawn("+-+-+-+", "|   | |", "+ + + +", "|   | |", "+-+-+-+")
        self.assertEqual(rooms(garden), [0, 2, 1, 1])
        self.assertEqual(garden_passages(garden), 5)
        self.assertEqual(perfect(garden), NOT_PERFECT)

    def test_every_inner_side_a_hedge(self):
        self.assertEqual(perfect(draw(10, 10, range(180))), NOT_PERFECT)

    def test_every_inner_side_a_passage(self):
        self.assertEqual(perfect(draw(10, 10, ())), NOT_PERFECT)

    def test_one_long_way_through_all_squares(self):
        self.assertEqual(perfect(draw(10, 10, snake_hedges())), PERFECT)

    def test_great_comb(self):
        # The level sides 90 to 179 are all passages, of the upright ones those of the last row alone.
        self.assertEqual(perfect(draw(10, 10, range(81))), PERFECT)
        self.assertEqual(perfect(draw(10, 10, range(80))), NOT_PERFECT)
        self.assertEqual(perfect(draw(10, 10, range(82))), NOT_PERFECT)


def garden_passages(garden):
    """How many passages a drawing of 3 by 2 squares shows: blanks less squares."""
    return garden.count(32) - 6


class ByTheDocumentsWords(unittest.TestCase):
    def check(self, wide, high, hedges):
        garden = draw(wide, high, hedges)
        expected = PERFECT if has_just_one_way(wide, high, hedges) else NOT_PERFECT
        self.assertEqual(perfect(garden), expected, bytes(garden))
        told = rooms(garden)
        self.assertEqual(perfect(garden) == PERFECT, told[1] == 1 and told[2] == 0, bytes(garden))

    def test_every_small_garden(self):
        for wide, high in SMALL_SIZES:
            for hedges in all_gardens(wide, high):
                self.check(wide, high, hedges)

    def test_gardens_of_every_size(self):
        for wide, high in ALL_SIZES:
            for share in range(9):
                self.check(wide, high, scattered(wide, high, share, share))

    def test_perfect_gardens_of_every_size(self):
        for wide, high in ALL_SIZES:
            for seed in range(3):
                hedges = grown(wide, high, seed)
                self.assertEqual(perfect(draw(wide, high, hedges)), PERFECT)
                self.check(wide, high, hedges)

    def test_perfect_gardens_with_one_hedge_more_or_less(self):
        for wide, high in ((2, 2), (3, 4), (5, 5), (10, 10)):
            hedges = grown(wide, high, 7)
            for number in range(side_count(wide, high)):
                changed = hedges ^ {number}
                self.assertEqual(perfect(draw(wide, high, changed)), NOT_PERFECT)
                self.check(wide, high, changed)

    def test_perfect_gardens_with_one_hedge_moved(self):
        for wide, high in ((3, 3), (4, 3), (5, 5), (10, 10)):
            hedges = grown(wide, high, 5)
            passages = sorted(frozenset(range(side_count(wide, high))) - hedges)
            stride = 1 if wide < 6 else 9
            answers = set()
            for removed in sorted(hedges)[::stride]:
                for added in passages[::stride]:
                    moved = hedges - {removed} | {added}
                    self.check(wide, high, moved)
                    answers.add(tuple(perfect(draw(wide, high, moved))))
            self.assertEqual(answers, {tuple(PERFECT), tuple(NOT_PERFECT)})


if __name__ == "__main__":
    unittest.main()
