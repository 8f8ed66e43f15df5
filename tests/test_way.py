"""B4: the first shortest way between two squares."""

import unittest

from hedgeways.gardens import far, way
from tests.drawings import (ALL_SIZES, SMALL_SIZES, all_gardens, draw, drawn, fewest_steps, grown, scattered,
                            shortest_ways, side_count, sides, sides_passed, snake_hedges)

OPEN_2_BY_2 = draw(2, 2, ())

UPRIGHT_RING = drawn(
    "+-+-+",
    "|   |",
    "+ + +",
    "| | |",
    "+ + +",
    "|   |",
    "+-+-+")

LEVEL_RING = drawn(
    "+-+-+-+",
    "|     |",
    "+ +-+ +",
    "|     |",
    "+-+-+-+")

ONE_WAY_ALONE = drawn(
    "+-+-+-+",
    "| |   |",
    "+ + + +",
    "| | | |",
    "+ + + +",
    "|   | |",
    "+-+-+-+")


class WrittenOut(unittest.TestCase):
    def test_from_a_square_to_itself(self):
        for wide, high in ALL_SIZES:
            every_side = range(side_count(wide, high))
            for hedges in ((), every_side, scattered(wide, high, 6, 5)):
                garden = draw(wide, high, hedges)
                for s in range(wide * high):
                    self.assertEqual(way(s, s, garden), [0, s])

    def test_one_step_through_each_side(self):
        garden = draw(3, 3, ())
        self.assertEqual(way(4, 1, garden), [0, 4, 1])
        self.assertEqual(way(4, 5, garden), [0, 4, 5])
        self.assertEqual(way(4, 7, garden), [0, 4, 7])
        self.assertEqual(way(4, 3, garden), [0, 4, 3])

    def test_one_step_through_each_side_with_hedges_elsewhere(self):
        pairs = sides(3, 3)
        for other in (1, 5, 7, 3):
            hedges = [number for number, pair in enumerate(pairs) if pair != tuple(sorted((4, other)))]
            garden = draw(3, 3, hedges)
            self.assertEqual(way(4, other, garden), [0, 4, other])
            self.assertEqual(way(other, 4, garden), [0, other, 4])
            for closed in {1, 3, 5, 7} - {other}:
                self.assertEqual(way(4, closed, garden), [-5])

    def test_along_a_row(self):
        garden = draw(10, 1, ())
        self.assertEqual(way(0, 9, garden), [0] + list(range(10)))
        self.assertEqual(way(9, 0, garden), [0] + list(range(9, -1, -1)))
        self.assertEqual(way(40, 43, draw(10, 10, ())), [0, 40, 41, 42, 43])
        self.assertEqual(way(43, 40, draw(10, 10, ())), [0, 43, 42, 41, 40])

    def test_along_a_column(self):
        garden = draw(1, 10, ())
        self.assertEqual(way(0, 9, garden), [0] + list(range(10)))
        self.assertEqual(way(9, 0, garden), [0] + list(range(9, -1, -1)))
        self.assertEqual(way(4, 34, draw(10, 10, ())), [0, 4, 14, 24, 34])
        self.assertEqual(way(34, 4, draw(10, 10, ())), [0, 34, 24, 14, 4])

    def test_one_way_alone(self):
        self.assertEqual(way(0, 8, ONE_WAY_ALONE), [0, 0, 3, 6, 7, 4, 1, 2, 5, 8])
        self.assertEqual(way(8, 0, ONE_WAY_ALONE), [0, 8, 5, 2, 1, 4, 7, 6, 3, 0])
        self.assertEqual(way(3, 4, ONE_WAY_ALONE), [0, 3, 6, 7, 4])

    def test_winding_way_over_all_squares(self):
        garden = draw(10, 10, snake_hedges())
        squares = []
        for y in range(10):
            row = list(range(10 * y, 10 * y + 10))
            squares += row if y % 2 == 0 else row[::-1]
        self.assertEqual(len(squares), 100)
        self.assertEqual(way(0, 90, garden), [0] + squares)
        self.assertEqual(way(90, 0, garden), [0] + squares[::-1])

    def test_a_longer_way_by_an_earlier_side_is_not_told(self):
        # From 3 to 5 the upper side leads there in 4 steps, the lower one in 4, the right one in 2.
        self.assertEqual(way(3, 5, draw(3, 3, ())), [0, 3, 4, 5])
        # From 4 the upper side leads to 5 in 7 steps, the right one in 1.
        garden = drawn("+-+-+-+-+", "|       |", "+ +-+-+ +", "|       |", "+-+-+-+-+")
        self.assertEqual(way(4, 5, garden), [0, 4, 5])
        self.assertEqual(way(5, 1, garden), [0, 5, 4, 0, 1])

    def test_no_way(self):
        self.assertEqual(way(0, 1, drawn("+-+-+", "| | |", "+-+-+")), [-5])
        self.assertEqual(way(1, 0, drawn("+-+-+", "| | |", "+-+-+")), [-5])
        self.assertEqual(way(0, 99, draw(10, 10, range(180))), [-5])


class WhereTwoPart(unittest.TestCase):
    def test_upper_and_right(self):
        self.assertEqual(way(2, 1, OPEN_2_BY_2), [0, 2, 0, 1])

    def test_upper_and_lower(self):
        self.assertEqual(way(2, 3, UPRIGHT_RING), [0, 2, 0, 1, 3])
        self.assertEqual(way(3, 2, UPRIGHT_RING), [0, 3, 1, 0, 2])

    def test_upper_and_left(self):
        self.assertEqual(way(3, 0, OPEN_2_BY_2), [0, 3, 1, 0])

    def test_right_and_lower(self):
        self.assertEqual(way(0, 3, OPEN_2_BY_2), [0, 0, 1, 3])

    def test_right_and_left(self):
        self.assertEqual(way(1, 4, LEVEL_RING), [0, 1, 2, 5, 4])
        self.assertEqual(way(4, 1, LEVEL_RING), [0, 4, 5, 2, 1])

    def test_lower_and_left(self):
        self.assertEqual(way(1, 2, OPEN_2_BY_2), [0, 1, 3, 2])

    def test_back_is_not_there_turned_about(self):
        there = way(1, 2, OPEN_2_BY_2)[1:]
        back = way(2, 1, OPEN_2_BY_2)[1:]
        self.assertEqual((there, back), ([1, 3, 2], [2, 0, 1]))
        self.assertNotEqual(back, there[::-1])

    def test_parting_only_later(self):
        # One way alone leads from 0 to 1; behind it the ways by the right and the lower side part.
        garden = drawn("+-+-+-+", "|     |", "+-+ + +", "| |   |", "+-+-+-+")
        self.assertEqual(way(0, 5, garden), [0, 0, 1, 2, 5])
        self.assertEqual(way(5, 0, garden), [0, 5, 2, 1, 0])

    def test_the_earliest_parting_counts(self):
        # 0 1 4 5 8 begins with the right side, 0 3 4 5 8 with the lower; 4 5 8 is ahead of 4 7 8.
        garden = drawn("+-+-+-+", "|   | |", "+ + +-+", "|     |", "+-+ + +", "| |   |", "+-+-+-+")
        self.assertEqual(way(0, 8, garden), [0, 0, 1, 4, 5, 8])
        self.assertEqual(way(8, 0, garden), [0, 8, 5, 4, 1, 0])
        self.assertEqual(way(7, 3, garden), [0, 7, 4, 3])

    def test_every_inner_side_a_passage_from_each_corner_to_each_other(self):
        for size in (2, 3, 10):
            garden = draw(size, size, ())
            last = size - 1
            upper = list(range(size))
            lower = [size * last + x for x in range(size)]
            left = [size * y for y in range(size)]
            right = [size * y + last for y in range(size)]
            corners = {
                (left[0], right[0]): upper,
                (right[0], left[0]): upper[::-1],
                (left[0], left[last]): left,
                (left[last], left[0]): left[::-1],
                (right[0], right[last]): right,
                (right[last], right[0]): right[::-1],
                (left[last], right[last]): lower,
                (right[last], left[last]): lower[::-1],
                (left[0], right[last]): upper + right[1:],
                (right[last], left[0]): right[::-1] + upper[::-1][1:],
                (right[0], left[last]): right + lower[::-1][1:],
                (left[last], right[0]): left[::-1] + upper[1:],
            }
            self.assertEqual(len(corners), 12)
            for (s, u), squares in corners.items():
                self.assertEqual(way(s, u, garden), [0] + squares, (size, s, u))


class ByTheDocumentsWords(unittest.TestCase):
    def check(self, wide, high, hedges, stride=1):
        garden = draw(wide, high, hedges)
        table = fewest_steps(wide, high, hedges)
        passages = {frozenset(pair) for number, pair in enumerate(sides(wide, high)) if number not in hedges}
        for number in range(0, (wide * high) ** 2, stride):
            s, u = divmod(number, wide * high)
            told = way(s, u, garden)
            about = (s, u, bytes(garden))
            if u not in table[s]:
                self.assertEqual(told, [-5], about)
                continue
            squares = told[1:]
            self.assertEqual((told[0], squares[0], squares[-1]), (0, s, u), about)
            self.assertEqual([0, len(squares) - 1], far(s, u, garden), about)
            for pair in zip(squares, squares[1:]):
                self.assertIn(frozenset(pair), passages, about)
            all_ways = shortest_ways(wide, high, hedges, table, s, u)
            self.assertEqual(squares, min(all_ways, key=lambda one: sides_passed(wide, one)), about)

    def test_every_small_garden(self):
        for wide, high in SMALL_SIZES[:-3]:
            for hedges in all_gardens(wide, high):
                self.check(wide, high, hedges)

    def test_every_open_small_garden(self):
        for wide, high in SMALL_SIZES[-3:]:
            for hedges in all_gardens(wide, high):
                if len(hedges) < 3:
                    self.check(wide, high, hedges)

    def test_gardens_of_every_size(self):
        for wide, high in ALL_SIZES:
            stride = 1 + wide * high // 2
            for share in (3, 4):
                self.check(wide, high, scattered(wide, high, share + 30, share), stride)

    def test_perfect_gardens_of_every_size(self):
        for wide, high in ALL_SIZES:
            self.check(wide, high, grown(wide, high, 8), 1 + wide * high // 2)

    def test_great_gardens(self):
        for share in (2, 3, 4):
            self.check(10, 10, scattered(10, 10, share + 40, share), stride=37)
        self.check(10, 10, snake_hedges(), stride=37)

    def test_gardens_with_many_shortest_ways(self):
        for wide, high in ((4, 4), (5, 4), (5, 5)):
            self.check(wide, high, frozenset(), stride=3)
            for share in (1, 2):
                self.check(wide, high, scattered(wide, high, share + 50, share), stride=2)


if __name__ == "__main__":
    unittest.main()
