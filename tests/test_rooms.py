"""B1 and B2: how many rooms, rings and islands, and the room of a square."""

import unittest

from hedgeways.gardens import room, rooms
from tests.drawings import (ALL_SIZES, SMALL_SIZES, all_gardens, counts, draw, drawn, rooms_of_squares,
                            scattered, side_count, snake_hedges)

FOUR_ROOMS = drawn(
    "+-+-+-+",
    "|   | |",
    "+-+ + +",
    "| | | |",
    "+ +-+-+",
    "| |   |",
    "+-+-+-+")

HANGING_AND_LOOSE = drawn(
    "+-+-+-+-+",
    "|   |   |",
    "+ + +-+ +",
    "|       |",
    "+ +-+ +-+",
    "|       |",
    "+-+-+-+-+")

CLOSED_RING = drawn(
    "+-+-+-+",
    "|     |",
    "+ +-+ +",
    "| | | |",
    "+ +-+ +",
    "|     |",
    "+-+-+-+")


def rooms_told(garden, squares):
    return [room(s, garden) for s in range(squares)]


class WrittenOut(unittest.TestCase):
    def test_one_square(self):
        garden = drawn("+-+", "| |", "+-+")
        self.assertEqual(rooms(garden), [0, 1, 0, 0])
        self.assertEqual(room(0, garden), [0, 0])

    def test_one_row(self):
        self.assertEqual(rooms(drawn("+-+-+-+-+", "|   | | |", "+-+-+-+-+")), [0, 3, 0, 0])
        self.assertEqual(rooms(drawn("+-+-+-+", "|     |", "+-+-+-+")), [0, 1, 0, 0])
        self.assertEqual(rooms_told(drawn("+-+-+-+-+", "| |   | |", "+-+-+-+-+"), 4),
                         [[0, 0], [0, 1], [0, 1], [0, 2]])

    def test_one_column(self):
        garden = drawn("+-+", "| |", "+ +", "| |", "+-+", "| |", "+-+")
        self.assertEqual(rooms(garden), [0, 2, 0, 0])
        self.assertEqual(rooms_told(garden, 3), [[0, 0], [0, 0], [0, 1]])

    def test_corner_with_no_hedge_is_an_island(self):
        garden = drawn("+-+-+", "|   |", "+ + +", "|   |", "+-+-+")
        self.assertEqual(rooms(garden), [0, 1, 1, 1])

    def test_several_rooms_are_numbered_by_least_squares(self):
        self.assertEqual(rooms(FOUR_ROOMS), [0, 4, 0, 0])
        self.assertEqual([told[1] for told in rooms_told(FOUR_ROOMS, 9)], [0, 0, 1, 2, 0, 1, 2, 3, 3])

    def test_hedges_that_hang_on_the_border_and_that_dont(self):
        # Hanging: the corners (2, 1), (3, 1) and (3, 2); loose: (1, 1) alone, and (1, 2) with (2, 2).
        self.assertEqual(rooms(HANGING_AND_LOOSE), [0, 1, 2, 2])

    def test_room_closed_in_by_a_loose_ring_of_hedges(self):
        self.assertEqual(rooms(CLOSED_RING), [0, 2, 1, 1])
        self.assertEqual([told[1] for told in rooms_told(CLOSED_RING, 9)], [0, 0, 0, 0, 1, 0, 0, 0, 0])

    def test_every_inner_side_a_hedge(self):
        garden = draw(10, 10, range(180))
        self.assertEqual(rooms(garden), [0, 100, 0, 0])
        self.assertEqual(rooms_told(garden, 100), [[0, s] for s in range(100)])

    def test_every_inner_side_a_passage(self):
        garden = draw(10, 10, ())
        self.assertEqual(rooms(garden), [0, 1, 81, 81])
        self.assertEqual(rooms_told(garden, 100), [[0, 0]] * 100)

    def test_one_long_way_through_all_squares(self):
        garden = draw(10, 10, snake_hedges())
        self.assertEqual(rooms(garden), [0, 1, 0, 0])
        self.assertEqual(room(99, garden), [0, 0])

    def test_rooms_that_meet_only_far_below(self):
        comb = drawn("+-+-+-+-+-+", "| | | | | |", "+ + + + + +", "| | | | | |", "+ + + + + +",
                     "|   | |   |", "+-+-+-+-+-+")
        self.assertEqual(rooms(comb), [0, 3, 0, 0])
        self.assertEqual([told[1] for told in rooms_told(comb, 5)], [0, 0, 1, 2, 2])

    def test_passage_is_not_told_slantwise(self):
        garden = drawn("+-+-+", "| | |", "+-+ +", "| | |", "+-+-+")
        self.assertEqual(rooms(garden), [0, 3, 0, 0])
        self.assertEqual(rooms_told(garden, 4), [[0, 0], [0, 1], [0, 2], [0, 1]])

    def test_least_and_last_square(self):
        self.assertEqual(room(0, FOUR_ROOMS), [0, 0])
        self.assertEqual(room(8, FOUR_ROOMS), [0, 3])
        self.assertEqual(room(11, HANGING_AND_LOOSE), [0, 0])


class ByTheDocumentsWords(unittest.TestCase):
    def check(self, wide, high, hedges):
        garden = draw(wide, high, hedges)
        told = rooms(garden)
        self.assertEqual(told, [0] + counts(wide, high, hedges), bytes(garden))
        self.assertEqual(told[2], told[3], bytes(garden))

    def check_each_square(self, wide, high, hedges):
        garden = draw(wide, high, hedges)
        expected = [[0, number] for number in rooms_of_squares(wide, high, hedges)]
        self.assertEqual(rooms_told(garden, wide * high), expected, bytes(garden))

    def test_every_small_garden(self):
        for wide, high in SMALL_SIZES:
            for hedges in all_gardens(wide, high):
                self.check(wide, high, hedges)

    def test_each_square_of_every_small_garden(self):
        for wide, high in SMALL_SIZES[:-1]:
            for hedges in all_gardens(wide, high):
                self.check_each_square(wide, high, hedges)

    def test_gardens_of_every_size(self):
        for wide, high in ALL_SIZES:
            for share in range(9):
                self.check(wide, high, scattered(wide, high, share, share))

    def test_each_square_of_gardens_of_every_size(self):
        for wide, high in ALL_SIZES:
            self.check_each_square(wide, high, scattered(wide, high, 11, 4))

    def test_each_inner_side_of_a_great_garden_by_itself(self):
        everywhere = frozenset(range(side_count(10, 10)))
        for number in everywhere:
            self.check(10, 10, frozenset((number,)))
            self.check(10, 10, everywhere - {number})


if __name__ == "__main__":
    unittest.main()
