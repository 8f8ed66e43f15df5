"""The two squares that lie farthest apart, and B5: in a perfect garden both are dead ends."""

import unittest

from hedgeways.gardens import ends, far, longest, perfect
from tests.drawings import (ALL_SIZES, SMALL_SIZES, all_gardens, draw, drawn, fewest_steps, grown, scattered,
                            side_count, snake_hedges, with_passages)


class WrittenOut(unittest.TestCase):
    def test_one_square(self):
        self.assertEqual(longest(drawn("+-+", "| |", "+-+")), [0, 0, 0, 0])

    def test_every_inner_side_a_hedge(self):
        for wide, high in ALL_SIZES:
            self.assertEqual(longest(draw(wide, high, range(side_count(wide, high)))), [0, 0, 0, 0])

    def test_two_squares(self):
        self.assertEqual(longest(drawn("+-+-+", "|   |", "+-+-+")), [0, 1, 0, 1])
        self.assertEqual(longest(drawn("+-+-+", "| | |", "+-+-+")), [0, 0, 0, 0])
        self.assertEqual(longest(drawn("+-+", "| |", "+ +", "| |", "+-+")), [0, 1, 0, 1])
        self.assertEqual(longest(drawn("+-+", "| |", "+-+", "| |", "+-+")), [0, 0, 0, 0])

    def test_one_row_and_one_column(self):
        for count in range(2, 11):
            self.assertEqual(longest(draw(count, 1, ())), [0, count - 1, 0, count - 1])
            self.assertEqual(longest(draw(1, count, ())), [0, count - 1, 0, count - 1])

    def test_several_rooms(self):
        def row(squares):
            return drawn("+-+-+-+-+-+-+", squares, "+-+-+-+-+-+-+")

        self.assertEqual(longest(row("|       |   |")), [0, 3, 0, 3])
        self.assertEqual(longest(row("|   |       |")), [0, 3, 2, 5])
        self.assertEqual(longest(row("| |       | |")), [0, 3, 1, 4])
        self.assertEqual(longest(row("|     |     |")), [0, 2, 0, 2])
        self.assertEqual(longest(row("| |   |   | |")), [0, 1, 1, 2])
        self.assertEqual(longest(row("| | | | |   |")), [0, 1, 4, 5])

    def test_two_rooms_as_far_with_the_squares_mixed(self):
        # 0 and 4 of the first room, 1 and 5 of the second lie 2 apart; 0 is the least of them.
        garden = drawn("+-+-+-+", "| |   |", "+ +-+ +", "|   | |", "+-+-+-+")
        self.assertEqual(longest(garden), [0, 2, 0, 4])
        # The square 0 by itself, then 1 2 5, then 3 4.
        garden = drawn("+-+-+-+", "| |   |", "+-+-+ +", "|   | |", "+-+-+-+")
        self.assertEqual(longest(garden), [0, 2, 1, 5])

    def test_every_inner_side_a_passage(self):
        self.assertEqual(longest(draw(10, 10, ())), [0, 18, 0, 99])
        for wide, high in ALL_SIZES:
            self.assertEqual(longest(draw(wide, high, ())), [0, wide + high - 2, 0, wide * high - 1])

    def test_winding_way(self):
        self.assertEqual(longest(draw(10, 10, snake_hedges())), [0, 99, 0, 90])

    def test_longest_way_that_does_not_begin_at_the_first_square(self):
        garden = drawn("+-+-+-+", "|     |", "+ +-+ +", "| | | |", "+-+-+-+")
        # 3 0 1 2 5; the square 4 by itself.
        self.assertEqual(longest(garden), [0, 4, 3, 5])

    def test_room_that_is_greater_but_less_far(self):
        # Eight squares with ways of 4 steps at most; then seven on one way of 6 steps.
        garden = drawn("+-+-+-+-+", "|       |", "+ + + + +", "|       |", "+-+-+-+-+", "|       |", "+-+-+-+ +",
                       "| |     |", "+-+-+-+-+")
        self.assertEqual(longest(garden), [0, 6, 8, 13])


class FirstOfSeveral(unittest.TestCase):
    def test_by_the_lesser_square(self):
        # Of the ring of 2 by 2 squares 0 and 3 lie 2 apart, and 1 and 2.
        self.assertEqual(longest(draw(2, 2, ())), [0, 2, 0, 3])

    def test_by_the_other_square(self):
        # From 0 the squares 6 and 8 are both 4 away, 6 comes first.
        garden = drawn("+-+-+-+", "| | | |", "+ +-+-+", "|   | |", "+-+ +-+", "|     |", "+-+-+-+")
        self.assertEqual(far(0, 6, garden), [0, 4])
        self.assertEqual(far(0, 8, garden), [0, 4])
        self.assertEqual(longest(garden), [0, 4, 0, 6])

    def test_by_the_lesser_square_ahead_of_the_other_one(self):
        # Arms of two squares around 12 in 5 by 5: 2 10, 2 14, 2 22, 10 14 .. are all 4 apart.
        arms = {(2, 7), (7, 12), (10, 11), (11, 12), (12, 13), (13, 14), (12, 17), (17, 22)}
        self.assertEqual(longest(with_passages(5, 5, arms)), [0, 4, 2, 10])
        self.assertEqual(longest(with_passages(5, 5, arms - {(2, 7)})), [0, 4, 10, 14])
        self.assertEqual(longest(with_passages(5, 5, arms - {(2, 7), (10, 11)})), [0, 4, 14, 22])

    def test_the_lesser_is_told_first(self):
        for wide, high in ALL_SIZES:
            for seed in range(3):
                told = longest(draw(wide, high, grown(wide, high, seed + 80)))
                self.assertLessEqual(told[2], told[3])
                self.assertEqual(told[2] == told[3], wide * high == 1)


class ByTheDocumentsWords(unittest.TestCase):
    def check_by_far(self, wide, high, hedges):
        """Compared with far, asked of every pair of squares."""
        garden = draw(wide, high, hedges)
        pairs = [(s, u) for s in range(wide * high) for u in range(s, wide * high)]
        asked = [(far(s, u, garden), s, u) for s, u in pairs]
        reached = [(told[1], s, u) for told, s, u in asked if told[0] == 0]
        farthest = max(steps for steps, s, u in reached)
        first = min((s, u) for steps, s, u in reached if steps == farthest)
        self.assertEqual(longest(garden), [0, farthest, *first], bytes(garden))

    def check_by_search(self, wide, high, hedges):
        """Compared with the fewest steps from each square to each other, counted without the program."""
        garden = draw(wide, high, hedges)
        table = fewest_steps(wide, high, hedges)
        reached = [(table[s][u], s, u) for s in range(wide * high) for u in table[s] if s <= u]
        farthest = max(steps for steps, s, u in reached)
        first = min((s, u) for steps, s, u in reached if steps == farthest)
        self.assertEqual(longest(garden), [0, farthest, *first], bytes(garden))

    def test_small_gardens_by_far(self):
        for wide, high in SMALL_SIZES[:-3]:
            for hedges in all_gardens(wide, high):
                self.check_by_far(wide, high, hedges)

    def test_greater_gardens_by_far(self):
        for wide, high in ((4, 4), (7, 3), (3, 7), (6, 6), (9, 5)):
            self.check_by_far(wide, high, scattered(wide, high, 90, 3))
            self.check_by_far(wide, high, grown(wide, high, 90))

    def test_every_small_garden(self):
        for wide, high in SMALL_SIZES:
            for hedges in all_gardens(wide, high):
                self.check_by_search(wide, high, hedges)

    def test_gardens_of_every_size(self):
        for wide, high in ALL_SIZES:
            for share in (3, 5):
                self.check_by_search(wide, high, scattered(wide, high, share + 90, share))

    def test_both_squares_of_a_perfect_garden_are_dead_ends(self):
        for wide, high in ALL_SIZES[1:]:
            for seed in range(3):
                garden = draw(wide, high, grown(wide, high, seed + 100))
                self.assertEqual(perfect(garden), [0, 1])
                told = longest(garden)
                self.assertEqual(far(told[2], told[3], garden), [0, told[1]])
                self.assertIn(told[2], ends(garden)[1:], bytes(garden))
                self.assertIn(told[3], ends(garden)[1:], bytes(garden))

    def test_both_squares_of_small_perfect_gardens_are_dead_ends(self):
        found = 0
        for wide, high in SMALL_SIZES[1:]:
            for hedges in all_gardens(wide, high):
                garden = draw(wide, high, hedges)
                if perfect(garden) == [0, 1]:
                    found += 1
                    self.assertLessEqual(set(longest(garden)[2:]), set(ends(garden)[1:]), bytes(garden))
        # As many as there are of each size: 1, 1, 1, 1, 4, 15, 15, 56, 56, 192.
        self.assertEqual(found, 342)


if __name__ == "__main__":
    unittest.main()
