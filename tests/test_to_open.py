"""to_open: the hedges to be opened are rooms less one (H1), and the first of these (H2)."""

import random
import unittest

from drawings import all_hedges, as_drawing, draw, level, rooms, side_count, squares_of, upright
from mazemends.garden import to_open
from words import every_garden, first_fewest_opened, gardens_by_chance, opened_one_by_one


class Written(unittest.TestCase):
    """Gardens written out by hand, with the answers counted out by hand."""

    def test_one_square(self):
        self.assertEqual(to_open(as_drawing("+-+", "| |", "+-+")), [0])

    def test_two_squares_side_by_side(self):
        self.assertEqual(to_open(as_drawing("+-+-+", "| | |", "+-+-+")), [0, 0])
        self.assertEqual(to_open(as_drawing("+-+-+", "|   |", "+-+-+")), [0])

    def test_two_squares_one_above_the_other(self):
        self.assertEqual(to_open(as_drawing("+-+", "| |", "+-+", "| |", "+-+")), [0, 0])
        self.assertEqual(to_open(as_drawing("+-+", "| |", "+ +", "| |", "+-+")), [0])

    def test_high_1(self):
        self.assertEqual(to_open(as_drawing("+-+-+-+-+", "| |   | |", "+-+-+-+-+")), [0, 0, 2])

    def test_wide_1(self):
        garden = as_drawing("+-+", "| |", "+-+", "| |", "+ +", "| |", "+-+", "| |", "+-+")
        self.assertEqual(to_open(garden), [0, 0, 2])

    def test_upright_ones_come_first(self):
        garden = as_drawing("+-+-+", "| | |", "+-+-+", "| | |", "+-+-+")
        self.assertEqual(to_open(garden), [0, 0, 1, 2])

    def test_a_hedge_within_a_room_stays(self):
        garden = as_drawing("+-+-+", "| | |", "+ + +", "|   |", "+-+-+")
        self.assertEqual(to_open(garden), [0])

    def test_a_hedge_whose_squares_became_one_room_stays(self):
        garden = as_drawing("+-+-+", "| | |", "+ +-+", "|   |", "+-+-+")
        self.assertEqual(to_open(garden), [0, 0])

    def test_wider_than_high(self):
        garden = as_drawing(
            "+-+-+-+",
            "|   | |",
            "+-+-+ +",
            "| | | |",
            "+-+-+-+")
        # Rooms: 0 with 1, 2 with 5, 3, 4. Uprights are 0 to 3, level ones 4 to 6.
        self.assertEqual(to_open(garden), [0, 1, 2, 3])

    def test_higher_than_wide(self):
        garden = as_drawing(
            "+-+-+",
            "|   |",
            "+-+-+",
            "|   |",
            "+-+-+",
            "|   |",
            "+-+-+")
        # Uprights are 0 to 2; of the level ones 3 to 6 each second finds one room already.
        self.assertEqual(to_open(garden), [0, 3, 5])

    def test_a_passage_aside_moves_the_choice(self):
        garden = as_drawing(
            "+-+-+-+",
            "|     |",
            "+-+-+ +",
            "| | | |",
            "+-+-+-+")
        self.assertEqual(to_open(garden), [0, 2, 3])

    def test_a_garden_changed_between_is_read_anew(self):
        garden = draw(2, 1, [0])
        self.assertEqual(to_open(garden), [0, 0])
        garden[8] = 32
        self.assertEqual(to_open(garden), [0])


class Sizes(unittest.TestCase):
    """Each size of a garden, with all hedges and with none."""

    def test_all_hedges_standing(self):
        for wide in range(1, 11):
            for high in range(1, 11):
                # Every upright one joins; then each row is one room, joined to the next at its first square.
                uprights = list(range(high * (wide - 1)))
                levels = [level(0, y, wide, high) for y in range(high - 1)]
                answer = to_open(draw(wide, high, all_hedges(wide, high)))
                self.assertEqual(answer, [0] + uprights + levels, (wide, high))
                self.assertEqual(len(answer) - 1, wide * high - 1)

    def test_no_hedge_standing(self):
        for wide in range(1, 11):
            for high in range(1, 11):
                self.assertEqual(to_open(draw(wide, high, [])), [0], (wide, high))

    def test_each_inner_side_of_a_single_row_or_column(self):
        for wide, high in ((1, 10), (10, 1), (1, 2), (2, 1)):
            for number in range(9 if 10 in (wide, high) else 1):
                self.assertEqual(to_open(draw(wide, high, [number])), [0, number])

    def test_a_square_hedged_all_around(self):
        # Its first hedge alone is opened; the others stand within one room by then.
        for wide, high in ((4, 3), (3, 4), (10, 10), (7, 2), (2, 7)):
            for x in range(wide):
                for y in range(high):
                    around = [n for n in range(side_count(wide, high)) if (x, y) in squares_of(n, wide, high)]
                    answer = to_open(draw(wide, high, around))
                    self.assertEqual(answer, [0, min(around)], (wide, high, x, y))

    def test_each_hedge_that_parts_a_garden(self):
        for wide, high in ((5, 3), (3, 5), (10, 10)):
            for x in range(wide - 1):
                wall = [upright(x, y, wide) for y in range(high)]
                self.assertEqual(to_open(draw(wide, high, wall)), [0, wall[0]])
            for y in range(high - 1):
                wall = [level(x, y, wide, high) for x in range(wide)]
                self.assertEqual(to_open(draw(wide, high, wall)), [0, wall[0]])


class Promises(unittest.TestCase):
    """H1 and H2, against every choice of hedges in small gardens and against the words in large ones."""

    def hold(self, wide, high, hedges, answer):
        numbers = answer[1:]
        self.assertEqual(answer[0], 0)
        self.assertEqual(numbers, sorted(set(numbers)))
        self.assertTrue(set(numbers) <= set(hedges))
        self.assertEqual(len(numbers), len(rooms(wide, high, hedges)) - 1)
        self.assertEqual(len(rooms(wide, high, set(hedges) - set(numbers))), 1)

    def test_every_small_garden(self):
        for wide, high in ((1, 1), (2, 1), (1, 2), (1, 4), (4, 1), (2, 2), (3, 2), (2, 3)):
            for hedges in every_garden(wide, high):
                answer = to_open(draw(wide, high, hedges))
                self.hold(wide, high, hedges, answer)
                self.assertEqual(answer[1:], first_fewest_opened(wide, high, hedges), (wide, high, hedges))

    def test_large_gardens(self):
        for wide, high, hedges in gardens_by_chance(random.Random(28), 150):
            answer = to_open(draw(wide, high, hedges))
            self.hold(wide, high, hedges, answer)
            self.assertEqual(answer[1:], opened_one_by_one(wide, high, hedges), (wide, high, hedges))


if __name__ == "__main__":
    unittest.main()
