"""The refusals of a drawing: -2 for more than 1,024 bytes, else -6 for one at fault."""

import random
import unittest

from calls import CALLS
from drawings import all_hedges, as_bytes, as_drawing, draw, inner_places, lines_of
from mazemends.garden import to_open

TOO_LONG = [-2]
AT_FAULT = [-6]


class Refusals(unittest.TestCase):
    """Each drawing is handed to every call: they refuse alike."""

    def refused(self, garden, refusal, told=None):
        for name, call in CALLS:
            self.assertEqual(call(garden), refusal, (name, told))

    def taken(self, garden, told=None):
        for name, call in CALLS:
            self.assertNotIn(call(garden), (TOO_LONG, AT_FAULT), (name, told))


class TooLong(Refusals):

    def test_1025_bytes_and_more(self):
        for length in range(1025, 1101):
            for byte in (0, 10, 32, 43, 45, 124, 255):
                self.refused([byte] * length, TOO_LONG, (length, byte))

    def test_too_long_behind_a_drawing(self):
        garden = draw(10, 10, [])
        for length in (1025, 1026, 1099, 1100):
            self.refused(garden + [10] * (length - len(garden)), TOO_LONG)

    def test_too_long_counts_before_the_fault(self):
        wide = draw(30, 8, [])
        self.assertGreater(len(wide), 1024)
        self.assertLess(len(wide), 1101)
        self.refused(wide, TOO_LONG)
        high = draw(10, 24, [])
        self.assertGreater(len(high), 1024)
        self.assertLess(len(high), 1101)
        self.refused(high, TOO_LONG)

    def test_1024_bytes_are_not_too_many(self):
        for byte in (0, 10, 32, 43, 45, 124, 255):
            self.refused([byte] * 1024, AT_FAULT)
        garden = draw(10, 10, [])
        for length in (1000, 1023, 1024):
            self.refused(garden + [10] * (length - len(garden)), AT_FAULT)


class Lengths(Refusals):

    def test_the_empty_list(self):
        self.refused([], AT_FAULT)

    def test_each_single_byte(self):
        for byte in range(256):
            self.refused([byte], AT_FAULT)

    def test_ends_too_soon(self):
        # Each level line within has a blank, so no shorter row of these bytes is a drawing.
        for wide, high in ((1, 1), (1, 10), (10, 1), (3, 2), (2, 3), (10, 10)):
            garden = draw(wide, high, [])
            for length in range(len(garden)):
                self.refused(garden[:length], AT_FAULT, (wide, high, length))

    def test_ends_too_soon_but_at_a_level_line_without_a_blank(self):
        for wide, high in ((1, 3), (3, 4), (10, 10)):
            garden = draw(wide, high, all_hedges(wide, high))
            ends = [(2 * rows + 1) * (2 * wide + 2) for rows in range(1, high + 1)]
            for length in range(len(garden) + 1):
                if length in ends:
                    self.taken(garden[:length], (wide, high, length))
                    # A garden of fewer rows: all its squares are rooms.
                    self.assertEqual(len(to_open(garden[:length])), wide * (ends.index(length) + 1))
                else:
                    self.refused(garden[:length], AT_FAULT, (wide, high, length))

    def test_one_byte_behind_the_end(self):
        for wide, high in ((1, 1), (3, 2), (10, 10)):
            garden = draw(wide, high, all_hedges(wide, high))
            for byte in range(256):
                self.refused(garden + [byte], AT_FAULT, (wide, high, byte))

    def test_more_behind_the_end(self):
        garden = draw(3, 2, [])
        self.refused(garden + garden, AT_FAULT)
        for line in lines_of(3, 2, []) + [""]:
            self.refused(garden + as_drawing(line), AT_FAULT, line)

    def test_bytes_ahead_of_the_beginning(self):
        garden = draw(3, 2, [])
        for byte in (0, 10, 32, 43, 45, 124, 255):
            self.refused([byte] + garden, AT_FAULT)

    def test_a_byte_left_out_or_put_in(self):
        garden = draw(3, 2, [1, 4, 5])
        for place in range(len(garden)):
            self.refused(garden[:place] + garden[place + 1:], AT_FAULT, place)
            for byte in (0, 10, 32, 43, 45, 124, 255):
                self.refused(garden[:place] + [byte] + garden[place:], AT_FAULT, (place, byte))


class Sizes(Refusals):

    def test_an_eleventh_square_in_a_row(self):
        for high in (1, 2, 10):
            for wide in (11, 12, 20):
                self.refused(draw(wide, high, []), AT_FAULT, (wide, high))
                self.refused(draw(wide, high, all_hedges(wide, high)), AT_FAULT, (wide, high))

    def test_an_eleventh_row_of_squares(self):
        for wide in (1, 2, 10):
            for high in (11, 12, 20):
                self.refused(draw(wide, high, []), AT_FAULT, (wide, high))
                self.refused(draw(wide, high, all_hedges(wide, high)), AT_FAULT, (wide, high))

    def test_an_eleventh_row_behind_a_drawing(self):
        for wide in (1, 10):
            garden = draw(wide, 10, all_hedges(wide, 10))
            self.taken(garden)
            self.refused(garden + as_drawing("| " * wide + "|", "+" + "-+" * wide), AT_FAULT)

    def test_no_square_at_all(self):
        for lines in ((), ("",), ("", "", ""), ("+",), ("+", "|", "+"), ("+", "+"), ("+-+",), ("+-+", "+-+")):
            self.refused(as_drawing(*lines), AT_FAULT, lines)

    def test_half_a_square(self):
        self.refused(as_drawing("+-", "| ", "+-"), AT_FAULT)
        self.refused(as_drawing("+-+-", "| | ", "+-+-"), AT_FAULT)
        self.refused(as_drawing("+-+", "| |"), AT_FAULT)
        self.refused(as_drawing("+-+", "| |", "+-+", "| |"), AT_FAULT)
        self.refused(as_drawing("+-+", "| |", "+-+", "+-+"), AT_FAULT)


class WrongBytes(Refusals):

    def test_every_byte_at_every_place(self):
        for wide, high in ((1, 1), (3, 2), (2, 3)):
            garden = draw(wide, high, range(0, 7, 2))
            inner = inner_places(wide, high)
            uprights = [place for place in inner if place // (2 * wide + 2) % 2 == 1]
            for place in range(len(garden)):
                allowed = {garden[place]}
                if place in inner:
                    allowed = {32, 124} if place in uprights else {32, 45}
                for byte in range(256):
                    changed = garden[:place] + [byte] + garden[place + 1:]
                    if byte in allowed:
                        self.taken(changed, (wide, high, place, byte))
                    else:
                        self.refused(changed, AT_FAULT, (wide, high, place, byte))

    def test_each_place_of_the_largest_garden(self):
        garden = draw(10, 10, range(0, 180, 3))
        for place in range(len(garden)):
            for byte in (0, 255, 10, 43, 33, 46, 125):
                if byte != garden[place]:
                    changed = garden[:place] + [byte] + garden[place + 1:]
                    self.refused(changed, AT_FAULT, (place, byte))

    def test_a_hole_in_each_side_of_the_border(self):
        whole = ["+-+-+", "|   |", "+ + +", "|   |", "+-+-+"]
        self.taken(as_drawing(*whole))
        for row, line in ((0, "+ +-+"), (0, "+-+ +"), (1, "|    "), (1, "    |"),
                          (3, "|    "), (3, "    |"), (4, "+ +-+"), (4, "+-+ +")):
            lines = list(whole)
            lines[row] = line
            self.refused(as_drawing(*lines), AT_FAULT, lines)

    def test_a_last_line_with_a_blank(self):
        for wide, high in ((1, 1), (3, 1), (3, 2), (10, 10)):
            for hole in range(wide):
                lines = lines_of(wide, high, [])
                last = list(lines[-1])
                last[2 * hole + 1] = " "
                lines[-1] = "".join(last)
                self.refused(as_drawing(*lines), AT_FAULT, lines)

    def test_hedges_of_the_other_kind(self):
        self.refused(as_drawing("+-+-+", "| - |", "+-+-+"), AT_FAULT)
        self.refused(as_drawing("+-+", "| |", "+|+", "| |", "+-+"), AT_FAULT)
        self.refused(as_drawing("+-+", "- -", "+-+"), AT_FAULT)
        self.refused(as_drawing("+|+", "| |", "+|+"), AT_FAULT)

    def test_something_in_a_square(self):
        self.refused(as_drawing("+-+", "|x|", "+-+"), AT_FAULT)
        self.refused(as_drawing("+-+", "|||", "+-+"), AT_FAULT)

    def test_other_ends_of_lines(self):
        self.refused(as_bytes("+-+\r| |\r+-+\r"), AT_FAULT)
        self.refused(as_bytes("+-+\r\n| |\r\n+-+\r\n"), AT_FAULT)
        self.refused(as_bytes("+-+\n| |\n+-+"), AT_FAULT)

    def test_rows_of_bytes_by_chance(self):
        chance = random.Random(6)
        for turn in range(500):
            length = chance.randint(0, 470)
            self.refused([chance.randint(0, 255) for place in range(length)], AT_FAULT)
            self.refused([chance.choice((10, 32, 43, 45, 124)) for place in range(length)], AT_FAULT)


class UnevenLines(Refusals):

    def test_a_line_shorter_or_longer_than_the_first(self):
        for row in range(5):
            for wide in (1, 2, 4, 5):
                lines = lines_of(3, 2, [])
                lines[row] = lines_of(wide, 2, [])[row]
                self.refused(as_drawing(*lines), AT_FAULT, lines)

    def test_as_many_bytes_but_uneven_lines(self):
        for row in range(4):
            lines = lines_of(3, 2, [])
            lines[row] = lines_of(2, 2, [])[row]
            lines[row + 1] = lines_of(4, 2, [])[row + 1]
            self.assertEqual(len(as_drawing(*lines)), len(draw(3, 2, [])))
            self.refused(as_drawing(*lines), AT_FAULT, lines)

    def test_a_line_twice_or_left_out(self):
        for row in range(5):
            lines = lines_of(3, 2, [])
            self.refused(as_drawing(*(lines[:row] + lines[row + 1:])), AT_FAULT)
            self.refused(as_drawing(*(lines[:row] + [lines[row]] + lines[row:])), AT_FAULT)

    def test_blanks_behind_a_line(self):
        for row in range(5):
            lines = lines_of(3, 2, [])
            lines[row] = lines[row] + " "
            self.refused(as_drawing(*lines), AT_FAULT)


if __name__ == "__main__":
    unittest.main()
