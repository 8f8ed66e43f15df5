"""What is no drawing, what is too long, what is no square, and which of these counts first."""

import unittest

from hedgeways.gardens import ends, far, longest, perfect, room, rooms, way
from tests.drawings import counts, draw, drawn, is_whole, scattered, side_count

GARDEN = drawn(
    "+-+-+-+",
    "|   | |",
    "+ +-+ +",
    "| |   |",
    "+-+-+-+",
    "|     |",
    "+-+-+-+")

GREATEST_NUMBER = 4294967295
LINE = 8

# Each call with squares that every garden has.
EVERY_CALL = ((rooms, ()), (room, (0,)), (perfect, ()), (far, (0, 0)), (way, (0, 0)), (ends, ()), (longest, ()))
PAIR_CALLS = (far, way)


def with_byte(garden, place, byte):
    return garden[:place] + [byte] + garden[place + 1:]


def by_the_lines(wide, high):
    """The lines of a drawing of any size, also of sizes that no garden has."""
    border = "+" + "-+" * wide
    lines = [border]
    for y in range(high):
        lines.append("|" + " " * (2 * wide - 1) + "|")
        lines.append("+" + " +" * wide)
    lines[-1] = border
    return drawn(*lines)


class AtFault(unittest.TestCase):
    def refused(self, garden):
        for call, squares in EVERY_CALL:
            self.assertEqual(call(*squares, garden), [-6], (call, bytes(garden)))

    def told(self, garden):
        for call, squares in EVERY_CALL:
            self.assertEqual(call(*squares, garden)[0], 0, (call, bytes(garden)))
        self.assertEqual(room(0, garden), [0, 0], bytes(garden))
        self.assertEqual(far(0, 0, garden), [0, 0], bytes(garden))
        self.assertEqual(way(0, 0, garden), [0, 0], bytes(garden))

    def told_or_refused(self, garden):
        if is_whole(garden):
            self.told(garden)
        else:
            self.refused(garden)

    def test_the_garden_itself_is_whole(self):
        # The squares 0, 1, 3; then 2, 4, 5; then 6, 7, 8.
        self.assertEqual(rooms(GARDEN), [0, 3, 0, 0])
        self.assertEqual([room(s, GARDEN)[1] for s in range(9)], [0, 0, 1, 0, 1, 1, 2, 2, 2])

    def test_empty_list(self):
        self.refused([])

    def test_line_ends_alone(self):
        for count in range(1, 30):
            self.refused([10] * count)

    def test_border_alone(self):
        self.refused(drawn("+-+"))
        self.refused(drawn("+-+", "+-+"))
        self.refused(drawn("+", "|", "+"))
        self.refused(drawn("+", "+"))

    def test_cut_off_at_every_place(self):
        for place in range(len(GARDEN)):
            cut = GARDEN[:place]
            # Behind line 4, which is hedges from end to end, two rows of squares are whole.
            if place == 5 * LINE:
                self.assertEqual(rooms(cut), [0, 2, 0, 0])
                self.assertEqual(room(5, cut), [0, 1])
                self.assertEqual(room(6, cut), [-4])
                self.assertEqual(perfect(cut), [0, 0])
                self.assertEqual(far(5, 2, cut), [0, 1])
                self.assertEqual(far(5, 6, cut), [-4])
                self.assertEqual(way(4, 2, cut), [0, 4, 5, 2])
                self.assertEqual(way(5, 6, cut), [-4])
                self.assertEqual(ends(cut), [0, 1, 2, 3, 4])
                self.assertEqual(longest(cut), [0, 2, 1, 3])
            else:
                self.refused(cut)

    def test_other_gardens_cut_off_at_every_place(self):
        for wide, high in ((1, 1), (1, 4), (4, 1), (2, 3), (5, 5), (10, 10)):
            for share in (0, 6, 8):
                garden = draw(wide, high, scattered(wide, high, 3, share))
                for place in range(len(garden)):
                    self.told_or_refused(garden[:place])

    def test_cut_off_at_the_front(self):
        for place in range(1, len(GARDEN)):
            self.told_or_refused(GARDEN[place:])
        self.refused(GARDEN[1:])
        self.refused(GARDEN[LINE:])

    def test_byte_too_many(self):
        for byte in range(256):
            self.refused(GARDEN + [byte])
            self.refused([byte] + GARDEN)

    def test_lines_too_many(self):
        self.refused(GARDEN + drawn("+-+-+-+"))
        self.refused(GARDEN + drawn("|     |"))
        self.refused(GARDEN + GARDEN)
        self.refused(draw(10, 10, ()) + drawn("|" + " " * 19 + "|"))

    def test_wrong_byte_at_each_place(self):
        for place in range(len(GARDEN)):
            for byte in range(256):
                self.told_or_refused(with_byte(GARDEN, place, byte))

    def test_wrong_byte_at_each_place_of_a_great_garden(self):
        garden = draw(10, 10, scattered(10, 10, 5, 4))
        for place in range(len(garden)):
            for byte in (0, 10, 13, 32, 43, 45, 124, 255):
                self.told_or_refused(with_byte(garden, place, byte))

    def test_wrong_byte_at_each_kind_of_place(self):
        corner, between_corners, square, between_squares = 2 * LINE + 2, 2 * LINE + 1, LINE + 1, LINE + 2
        for place in (0, 6, corner, 6 * LINE, 6 * LINE + 6):
            for byte in (32, 45, 124, 10, 0):
                self.refused(with_byte(GARDEN, place, byte))
        for byte in (43, 124, 10, 0, 255):
            self.refused(with_byte(GARDEN, between_corners, byte))
        for byte in (43, 45, 124, 10, 0, 88):
            self.refused(with_byte(GARDEN, square, byte))
        for byte in (43, 45, 10, 0, 255):
            self.refused(with_byte(GARDEN, between_squares, byte))
        for place in (LINE, LINE + 6):
            for byte in (32, 43, 45, 10):
                self.refused(with_byte(GARDEN, place, byte))
        for place in range(LINE - 1, len(GARDEN), LINE):
            for byte in (13, 32, 43, 124, 0):
                self.refused(with_byte(GARDEN, place, byte))

    def test_either_sign_between_two_corners_and_two_squares(self):
        for place, byte in ((2 * LINE + 1, 45), (2 * LINE + 3, 32), (LINE + 2, 124), (LINE + 4, 32)):
            self.told(with_byte(GARDEN, place, byte))

    def test_blank_in_the_first_line(self):
        for place in (1, 3, 5):
            self.refused(with_byte(GARDEN, place, 32))

    def test_level_line_with_a_blank_in_it_as_the_last(self):
        for place in (1, 3, 5):
            self.refused(with_byte(GARDEN, 6 * LINE + place, 32))
        self.refused(GARDEN[:3 * LINE])

    def test_widest_and_highest(self):
        self.told(by_the_lines(10, 1))
        self.told(by_the_lines(1, 10))
        self.told(by_the_lines(10, 10))

    def test_eleven_wide(self):
        for high in (1, 5, 10):
            self.refused(by_the_lines(11, high))

    def test_eleven_high(self):
        for wide in (1, 5, 10):
            self.refused(by_the_lines(wide, 11))

    def test_eleventh_row_behind_ten_closed_ones(self):
        garden = draw(1, 10, range(9))
        self.told(garden)
        self.refused(garden + drawn("| |", "+-+"))
        self.refused(with_byte(garden, len(garden) - 3, 32) + drawn("| |", "+-+"))

    def test_no_squares_wide(self):
        for high in (1, 2, 10):
            self.refused(drawn("+", *["|", "+"] * high))

    def test_lines_of_unlike_length(self):
        self.refused(drawn("+-+-+", "|   |", "+-+"))
        self.refused(drawn("+-+", "|   |", "+-+-+"))
        self.refused(drawn("+-+-+", "| |", "+-+-+"))
        self.refused(drawn("+-+-+", "|     |", "+-+-+"))
        self.refused(drawn("+-+-+", "|     |", "+-+"))
        self.refused(drawn("+-+-+", "|   |", "+-+-+-+"))

    def test_one_byte_left_out(self):
        for place in range(len(GARDEN)):
            self.refused(GARDEN[:place] + GARDEN[place + 1:])

    def test_other_bytes_for_the_lines_ends(self):
        self.refused([13 if byte == 10 else byte for byte in GARDEN])
        self.refused([new for byte in GARDEN for new in ([13, 10] if byte == 10 else [byte])])
        self.refused(GARDEN[:-1])

    def test_gardens_of_every_size_are_whole(self):
        for wide in range(1, 11):
            for high in range(1, 11):
                hedges = scattered(wide, high, 2, 4)
                self.assertEqual(rooms(draw(wide, high, hedges)), [0] + counts(wide, high, hedges))


class Order(unittest.TestCase):
    def test_bytes_at_the_edge(self):
        for byte in (0, 10, 32, 43, 255):
            for count, answer in ((1023, [-6]), (1024, [-6]), (1025, [-2]), (1100, [-2])):
                for call, squares in EVERY_CALL:
                    self.assertEqual(call(*squares, [byte] * count), answer, call)

    def test_too_long_behind_a_whole_drawing(self):
        for count, answer in ((1024, [-6]), (1025, [-2]), (1100, [-2])):
            garden = GARDEN + [10] * (count - len(GARDEN))
            for call, squares in EVERY_CALL:
                self.assertEqual(call(*squares, garden), answer, call)

    def test_too_long_counts_ahead_of_all(self):
        for s in (9, 100, GREATEST_NUMBER):
            self.assertEqual(room(s, [43] * 1025), [-2])
            self.assertEqual(room(s, [43] * 1100), [-2])

    def test_fault_counts_ahead_of_no_such_square(self):
        for s in (0, 9, 100, GREATEST_NUMBER):
            self.assertEqual(room(s, GARDEN[:-1]), [-6])
            self.assertEqual(room(s, []), [-6])
            self.assertEqual(room(s, [43] * 1024), [-6])

    def test_no_such_square(self):
        self.assertEqual(room(8, GARDEN), [0, 2])
        for s in (9, 10, 99, 100, 255, 256, 65536, GREATEST_NUMBER - 1, GREATEST_NUMBER):
            self.assertEqual(room(s, GARDEN), [-4])

    def test_first_number_that_is_no_square_at_every_size(self):
        for wide in range(1, 11):
            for high in range(1, 11):
                garden = draw(wide, high, range(side_count(wide, high)))
                self.assertEqual(room(wide * high - 1, garden), [0, wide * high - 1])
                self.assertEqual(room(wide * high, garden), [-4])
                self.assertEqual(room(GREATEST_NUMBER, garden), [-4])


class OrderForTwoSquares(unittest.TestCase):
    """-2 ahead of -6, -6 ahead of -4, -4 ahead of -5."""

    def answered(self, s, u, garden, answer):
        for call in PAIR_CALLS:
            self.assertEqual(call(s, u, garden), answer, (call, s, u, bytes(garden)))
            self.assertEqual(call(u, s, garden), answer, (call, u, s, bytes(garden)))

    def test_too_long_counts_ahead_of_all(self):
        for count in (1025, 1100):
            for garden in ([43] * count, GARDEN + [10] * (count - len(GARDEN))):
                for s, u in ((0, 0), (0, 8), (0, 9), (9, 9), (9, 10), (GREATEST_NUMBER, 0)):
                    self.answered(s, u, garden, [-2])

    def test_fault_counts_ahead_of_no_such_square_and_of_no_way(self):
        for garden in ([], GARDEN[:-1], GARDEN + [10], with_byte(GARDEN, 1, 32), [43] * 1024):
            for s, u in ((0, 0), (0, 8), (0, 9), (9, 9), (9, 10), (GREATEST_NUMBER, 0)):
                self.answered(s, u, garden, [-6])

    def test_no_such_square(self):
        for wrong in (9, 10, 99, 100, 255, 256, 65536, GREATEST_NUMBER - 1, GREATEST_NUMBER):
            for right in range(9):
                self.answered(right, wrong, GARDEN, [-4])
            for other in (9, 10, GREATEST_NUMBER):
                self.answered(wrong, other, GARDEN, [-4])
            self.answered(wrong, wrong, GARDEN, [-4])

    def test_no_such_square_where_no_way_would_lead(self):
        for right in range(9):
            self.answered(right, 9, draw(3, 3, range(12)), [-4])
            self.answered(right, GREATEST_NUMBER, draw(3, 3, range(12)), [-4])

    def test_first_number_that_is_no_square_at_every_size(self):
        for wide in range(1, 11):
            for high in range(1, 11):
                count = wide * high
                garden = draw(wide, high, range(side_count(wide, high)))
                for s in (0, count - 1, count, GREATEST_NUMBER):
                    self.answered(s, count, garden, [-4])
                    self.answered(s, GREATEST_NUMBER, garden, [-4])
                if count > 1:
                    self.answered(0, count - 1, garden, [-5])

    def test_no_way_between_two_rooms(self):
        rooms_in_order = [0, 0, 1, 0, 1, 1, 2, 2, 2]
        for s in range(9):
            for u in range(9):
                if rooms_in_order[s] == rooms_in_order[u]:
                    for call in PAIR_CALLS:
                        self.assertEqual(call(s, u, GARDEN)[0], 0)
                else:
                    self.answered(s, u, GARDEN, [-5])

    def test_no_way_out_of_a_closed_ring(self):
        ring = drawn("+-+-+-+", "|     |", "+ +-+ +", "| | | |", "+ +-+ +", "|     |", "+-+-+-+")
        for s in (0, 1, 2, 3, 5, 6, 7, 8):
            self.answered(s, 4, ring, [-5])


if __name__ == "__main__":
    unittest.main()
