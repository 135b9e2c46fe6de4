"""plant: the passages to be planted are as many as the rings (H1), and the first of these (H2)."""

import random
import unittest

from drawings import all_hedges, as_drawing, draw, level, rooms, side_count, upright
from mazemends.garden import plant, to_open
from words import every_garden, first_fewest_planted, gardens_by_chance, passages, planted_one_by_one, rings


def around(x, y, wide, high):
    """The four inner sides of the smallest ring, by the square at its upper left."""
    return [upright(x, y, wide), upright(x, y + 1, wide), level(x, y, wide, high), level(x + 1, y, wide, high)]


def hedges_but(wide, high, left):
    return [number for number in range(side_count(wide, high)) if number not in left]


class Written(unittest.TestCase):
    """Gardens written out by hand, with the answers counted out by hand."""

    def test_one_square(self):
        self.assertEqual(plant(as_drawing("+-+", "| |", "+-+")), [0])

    def test_two_squares(self):
        self.assertEqual(plant(as_drawing("+-+-+", "|   |", "+-+-+")), [0])
        self.assertEqual(plant(as_drawing("+-+-+", "| | |", "+-+-+")), [0])
        self.assertEqual(plant(as_drawing("+-+", "| |", "+ +", "| |", "+-+")), [0])
        self.assertEqual(plant(as_drawing("+-+", "| |", "+-+", "| |", "+-+")), [0])

    def test_one_ring(self):
        self.assertEqual(plant(as_drawing("+-+-+", "|   |", "+ + +", "|   |", "+-+-+")), [0, 0])

    def test_a_ring_that_one_hedge_breaks(self):
        for number in range(4):
            self.assertEqual(plant(draw(2, 2, [number])), [0], number)

    def test_two_rings_side_by_side(self):
        garden = as_drawing(
            "+-+-+-+",
            "|     |",
            "+ + + +",
            "|     |",
            "+-+-+-+")
        # Uprights are 0 to 3. With 0 and 1 planted, 2 is all that joins the left squares.
        self.assertEqual(plant(garden), [0, 0, 1])

    def test_two_rings_one_above_the_other(self):
        garden = as_drawing(
            "+-+-+",
            "|   |",
            "+ + +",
            "|   |",
            "+ + +",
            "|   |",
            "+-+-+")
        # Uprights are 0, 1, 2: with 0 and 1 planted, 2 alone joins left and right.
        self.assertEqual(plant(garden), [0, 0, 1])

    def test_a_ring_of_its_second_upright_one(self):
        garden = as_drawing(
            "+-+-+-+",
            "|   | |",
            "+-+ +-+",
            "|     |",
            "+-+-+-+")
        self.assertEqual(plant(garden), [0])
        garden = as_drawing(
            "+-+-+-+",
            "| |   |",
            "+-+ + +",
            "|     |",
            "+-+-+-+")
        # The ring is that of 1, 3, 5, 6 (uprights are 0 to 3); 2 is on none.
        self.assertEqual(plant(garden), [0, 1])

    def test_a_large_ring(self):
        garden = as_drawing(
            "+-+-+-+",
            "|     |",
            "+ +-+ +",
            "| | | |",
            "+ +-+ +",
            "|     |",
            "+-+-+-+")
        self.assertEqual(plant(garden), [0, 0])

    def test_higher_rings(self):
        garden = as_drawing(
            "+-+-+",
            "|   |",
            "+ + +",
            "|   |",
            "+ +-+",
            "|   |",
            "+ + +",
            "|   |",
            "+-+-+")
        # Uprights are 0 to 3. A ring above of 0 and 1, one below of 2 and 3.
        self.assertEqual(plant(garden), [0, 0, 2])
        garden = as_drawing(
            "+-+-+-+",
            "| |   |",
            "+ + + +",
            "|     |",
            "+ + + +",
            "|     |",
            "+-+-+-+")
        # Uprights are 0 to 5; with 1, 2, 3 planted the columns hang together in the last row alone.
        self.assertEqual(plant(garden), [0, 1, 2, 3])

    def test_rings_in_rooms_that_no_way_joins(self):
        garden = as_drawing(
            "+-+-+-+-+-+",
            "|   | |   |",
            "+ + +-+ + +",
            "|   | |   |",
            "+-+-+-+-+-+")
        self.assertEqual(plant(garden), [0, 0, 3])
        garden = as_drawing(
            "+-+-+",
            "|   |",
            "+ + +",
            "|   |",
            "+-+-+",
            "|   |",
            "+ + +",
            "|   |",
            "+-+-+")
        self.assertEqual(plant(garden), [0, 0, 2])

    def test_a_garden_changed_between_is_read_anew(self):
        garden = draw(2, 2, [])
        self.assertEqual(plant(garden), [0, 0])
        garden[8] = 124
        self.assertEqual(plant(garden), [0])


class Sizes(unittest.TestCase):

    def test_all_hedges_standing(self):
        for wide in range(1, 11):
            for high in range(1, 11):
                self.assertEqual(plant(draw(wide, high, all_hedges(wide, high))), [0], (wide, high))

    def test_no_hedge_standing(self):
        for wide in range(1, 11):
            for high in range(1, 11):
                # All upright ones but those of the last row: there the columns, whole, are joined.
                answer = plant(draw(wide, high, []))
                self.assertEqual(answer, [0] + list(range((high - 1) * (wide - 1))), (wide, high))

    def test_a_single_row_or_column_has_no_ring(self):
        for wide, high in ((1, 10), (10, 1), (1, 2), (2, 1), (1, 5), (5, 1)):
            self.assertEqual(plant(draw(wide, high, [])), [0])
            for number in range(side_count(wide, high)):
                self.assertEqual(plant(draw(wide, high, [number])), [0])

    def test_each_smallest_ring_by_itself(self):
        for wide, high in ((2, 2), (4, 3), (3, 4), (10, 10), (2, 7), (7, 2)):
            for x in range(wide - 1):
                for y in range(high - 1):
                    ring = around(x, y, wide, high)
                    garden = draw(wide, high, hedges_but(wide, high, ring))
                    self.assertEqual(plant(garden), [0, min(ring)], (wide, high, x, y))

    def test_a_comb_has_no_ring(self):
        for wide, high in ((4, 3), (3, 4), (10, 10)):
            uprights = list(range((high - 1) * (wide - 1)))
            self.assertEqual(plant(draw(wide, high, uprights)), [0])
            levels = [level(x, y, wide, high) for y in range(high - 1) for x in range(1, wide)]
            self.assertEqual(plant(draw(wide, high, levels)), [0])

    def test_a_ring_of_a_comb_and_a_level_one(self):
        # Rows joined along their left ends: each other level passage closes a ring through both rows.
        for wide, high in ((4, 3), (3, 4), (10, 10)):
            levels = [level(x, y, wide, high) for y in range(high - 1) for x in range(1, wide)]
            for y in range(high - 1):
                for x in range(1, wide):
                    left = [number for number in levels if number != level(x, y, wide, high)]
                    self.assertEqual(plant(draw(wide, high, left)), [0, upright(0, y, wide)])


class OpenedOnes(unittest.TestCase):
    """The hedges that are to be opened play no part."""

    def test_opening_first_would_change_nothing_here(self):
        # A ring and a room apart: opening joins them, but closes no ring.
        garden = as_drawing("+-+-+-+", "|   | |", "+ + + +", "|   | |", "+-+-+-+")
        self.assertEqual(to_open(garden), [0, 1])
        self.assertEqual(plant(garden), [0, 0])

    def test_a_hedge_to_be_opened_is_never_planted(self):
        for wide, high, hedges in gardens_by_chance(random.Random(5), 100):
            garden = draw(wide, high, hedges)
            opened, planted = to_open(garden)[1:], plant(garden)[1:]
            self.assertEqual(set(opened) & set(planted), set())
            self.assertTrue(set(planted) <= set(passages(wide, high, hedges)))
            # With them opened as well, the same passages are on a ring.
            mended = [number for number in hedges if number not in opened]
            self.assertEqual(rings(wide, high, mended), len(planted))

    def test_each_room_by_itself(self):
        # A wall parts the garden: what is planted on its left doesn't hang on what is on its right.
        wide, high, wall = 6, 4, 3
        parting = [upright(wall - 1, y, wide) for y in range(high)]
        right = [upright(x, y, wide) for x in range(wall, wide - 1) for y in range(high)]
        alone = plant(draw(wide, high, parting + right))[1:]
        both = plant(draw(wide, high, parting))[1:]
        self.assertEqual([number for number in both if number % (wide - 1) < wall - 1], alone)
        self.assertEqual(alone, [upright(x, y, wide) for y in range(high - 1) for x in range(wall - 1)])


class Promises(unittest.TestCase):
    """H1 and H2, against every choice of passages in small gardens and against the words in large ones."""

    def hold(self, wide, high, hedges, answer):
        numbers = answer[1:]
        self.assertEqual(answer[0], 0)
        self.assertEqual(numbers, sorted(set(numbers)))
        self.assertTrue(set(numbers) <= set(passages(wide, high, hedges)))
        self.assertEqual(len(numbers), rings(wide, high, hedges))
        # Every ring has upright passages, and they come ahead of the level ones.
        self.assertTrue(all(number < high * (wide - 1) for number in numbers))
        planted = set(hedges) | set(numbers)
        self.assertEqual(rooms(wide, high, planted), rooms(wide, high, hedges))
        self.assertEqual(rings(wide, high, planted), 0)
        self.assertEqual(plant(draw(wide, high, planted)), [0])

    def test_every_small_garden(self):
        for wide, high in ((1, 1), (2, 1), (1, 2), (1, 4), (4, 1), (2, 2), (3, 2), (2, 3), (4, 2), (2, 4)):
            for hedges in every_garden(wide, high):
                answer = plant(draw(wide, high, hedges))
                self.hold(wide, high, hedges, answer)
                self.assertEqual(answer[1:], first_fewest_planted(wide, high, hedges), (wide, high, hedges))

    def test_every_garden_of_nine_squares(self):
        for hedges in every_garden(3, 3):
            self.assertEqual(plant(draw(3, 3, hedges))[1:], planted_one_by_one(3, 3, hedges), hedges)

    def test_large_gardens(self):
        for wide, high, hedges in gardens_by_chance(random.Random(29), 150):
            answer = plant(draw(wide, high, hedges))
            self.hold(wide, high, hedges, answer)
            self.assertEqual(answer[1:], planted_one_by_one(wide, high, hedges), (wide, high, hedges))


if __name__ == "__main__":
    unittest.main()
