"""eased: hedges opened at dead ends (H3), and -5 for a garden with a lone square."""

import random
import unittest

from drawings import all_hedges, as_drawing, draw, level, places, side_count, upright
from mazemends.garden import differ, done, eased
from words import eased_one_by_one, every_garden, gardens_by_chance, hedges_within, sides_of_square, squares_with

LONE = [-5]


def around(x, y, wide, high):
    return [number for number in sides_of_square(x, y, wide, high) if number is not None]


class Written(unittest.TestCase):
    """Gardens written out by hand, with the garden eased beside them."""

    def eased(self, before, after):
        self.assertEqual(eased(as_drawing(*before)), [0] + as_drawing(*after))

    def test_no_dead_end(self):
        for lines in (
                ("+-+-+", "|   |", "+ + +", "|   |", "+-+-+"),
                ("+-+-+-+", "|     |", "+ +-+ +", "|     |", "+-+-+-+"),
                ("+-+-+-+-+", "|   |   |", "+ + + + +", "|   |   |", "+-+-+-+-+")):
            self.eased(lines, lines)

    def test_two_squares(self):
        # Two dead ends without a hedge within: the border doesn't count.
        for lines in (("+-+-+", "|   |", "+-+-+"), ("+-+", "| |", "+ +", "| |", "+-+")):
            self.eased(lines, lines)

    def test_the_upper_side_first(self):
        self.eased(
            ("+-+-+-+", "|     |", "+ +-+ +", "| |   |", "+ +-+ +", "|     |", "+-+-+-+"),
            ("+-+-+-+", "|     |", "+ + + +", "| |   |", "+ +-+ +", "|     |", "+-+-+-+"))
        self.eased(
            ("+-+-+-+", "|     |", "+ +-+ +", "| | | |", "+ + + +", "|     |", "+-+-+-+"),
            ("+-+-+-+", "|     |", "+ + + +", "| | | |", "+ + + +", "|     |", "+-+-+-+"))
        self.eased(
            ("+-+-+-+", "|     |", "+ +-+ +", "|   | |", "+ +-+ +", "|     |", "+-+-+-+"),
            ("+-+-+-+", "|     |", "+ + + +", "|   | |", "+ +-+ +", "|     |", "+-+-+-+"))

    def test_then_the_right_side(self):
        self.eased(
            ("+-+-+-+", "|     |", "+ + + +", "| | | |", "+ +-+ +", "|     |", "+-+-+-+"),
            ("+-+-+-+", "|     |", "+ + + +", "| |   |", "+ +-+ +", "|     |", "+-+-+-+"))
        # In the first line the border stands above.
        self.eased(
            ("+-+-+-+", "|   | |", "+ +-+ +", "|     |", "+-+-+-+"),
            ("+-+-+-+", "|     |", "+ +-+ +", "|     |", "+-+-+-+"))

    def test_then_the_lower_side(self):
        self.eased(
            ("+-+-+-+-+", "|   |   |", "+ + +-+ +", "|       |", "+-+-+-+-+"),
            ("+-+-+-+-+", "|   |   |", "+ + + + +", "|       |", "+-+-+-+-+"))
        # In the last column the border stands on the right.
        self.eased(
            ("+-+-+", "|   |", "+ + +", "| | |", "+ +-+", "|   |", "+ + +", "|   |", "+-+-+"),
            ("+-+-+", "|   |", "+ + +", "| | |", "+ + +", "|   |", "+ + +", "|   |", "+-+-+"))

    def test_then_the_left_side(self):
        self.eased(
            ("+-+-+-+", "|     |", "+ + + +", "|   | |", "+-+-+-+"),
            ("+-+-+-+", "|     |", "+ + + +", "|     |", "+-+-+-+"))

    def test_a_dead_end_that_is_none_any_more(self):
        # Square 0 opens its right side, and so square 1 has two passages when it is come to.
        self.eased(
            ("+-+-+", "| | |", "+ + +", "|   |", "+-+-+"),
            ("+-+-+", "|   |", "+ + +", "|   |", "+-+-+"))
        # Square 0 opens its lower side, and so square 2 has two.
        self.eased(
            ("+-+-+", "|   |", "+-+ +", "|   |", "+-+-+"),
            ("+-+-+", "|   |", "+ + +", "|   |", "+-+-+"))
        # Square 2 opens its lower side, and so square 6 leaves its right one as it is.
        self.eased(
            ("+-+-+-+-+", "|   |   |", "+ + +-+ +", "|   | | |", "+ + + + +", "|       |", "+-+-+-+-+"),
            ("+-+-+-+-+", "|   |   |", "+ + + + +", "|   | | |", "+ + + + +", "|       |", "+-+-+-+-+"))

    def test_one_dead_end_ended_and_one_not(self):
        # Squares 0, 1 and 4 are dead ends: 0 opens towards 1, which is none any more; 4 opens its upper side.
        self.eased(
            ("+-+-+-+", "| |   |", "+ +-+ +", "| |   |", "+ +-+ +", "|     |", "+-+-+-+"),
            ("+-+-+-+", "|     |", "+ + + +", "| |   |", "+ +-+ +", "|     |", "+-+-+-+"))

    def test_high_1(self):
        self.eased(("+-+-+-+-+", "|   |   |", "+-+-+-+-+"), ("+-+-+-+-+", "|       |", "+-+-+-+-+"))
        self.eased(("+-+-+-+", "|     |", "+-+-+-+"), ("+-+-+-+", "|     |", "+-+-+-+"))

    def test_wide_1(self):
        self.eased(
            ("+-+", "| |", "+ +", "| |", "+-+", "| |", "+ +", "| |", "+-+"),
            ("+-+", "| |", "+ +", "| |", "+ +", "| |", "+ +", "| |", "+-+"))

    def test_rooms_may_stay_apart(self):
        self.eased(
            ("+-+-+-+", "|     |", "+-+-+-+", "|     |", "+-+-+-+"),
            ("+-+-+-+", "|     |", "+ +-+ +", "|     |", "+-+-+-+"))

    def test_a_garden_changed_between_is_read_anew(self):
        garden = draw(2, 1, [])
        self.assertEqual(eased(garden), [0] + garden)
        garden[8] = 124
        self.assertEqual(eased(garden), LONE)


class Sizes(unittest.TestCase):

    def test_no_hedge_standing(self):
        for wide in range(1, 11):
            for high in range(1, 11):
                garden = draw(wide, high, [])
                answer = LONE if wide == high == 1 else [0] + garden
                self.assertEqual(eased(garden), answer, (wide, high))

    def test_a_single_row_or_column(self):
        # Each room's ends open towards the next room.
        for wide, high in ((1, 10), (10, 1), (1, 4), (4, 1), (1, 7), (7, 1)):
            for hedges in every_garden(wide, high):
                if squares_with(0, wide, high, hedges):
                    self.assertEqual(eased(draw(wide, high, hedges)), LONE)
                else:
                    self.assertEqual(eased(draw(wide, high, hedges)), [0] + draw(wide, high, []))

    def test_each_square_a_dead_end_by_itself(self):
        for wide, high in ((4, 4), (5, 4), (10, 10)):
            for x in range(wide):
                for y in range(high):
                    for passage in around(x, y, wide, high):
                        hedges = [number for number in around(x, y, wide, high) if number != passage]
                        if squares_with(1, wide, high, hedges) == [(x, y)]:
                            answer = eased(draw(wide, high, hedges))
                            self.assertEqual(answer, [0] + draw(wide, high, hedges[1:]), (x, y, passage))

    def test_rows_joined_along_their_left_ends(self):
        # The right end of row 0 opens downwards, that of row 1 is none any more, all others open upwards.
        wide, high = 10, 10
        hedges = {level(x, y, wide, high) for y in range(high - 1) for x in range(1, wide)}
        opened = {level(wide - 1, y, wide, high) for y in range(high - 1)}
        self.assertEqual(eased(draw(wide, high, hedges)), [0] + draw(wide, high, hedges - opened))

    def test_columns_joined_along_their_lower_ends(self):
        # The upper end of column 0 opens to the right, that of column 1 is none any more, and so on by twos.
        wide, high = 10, 10
        hedges = set(range((high - 1) * (wide - 1)))
        opened = {upright(x, 0, wide) for x in range(0, wide, 2)}
        self.assertEqual(eased(draw(wide, high, hedges)), [0] + draw(wide, high, hedges - opened))


class LoneSquares(unittest.TestCase):

    def test_one_square(self):
        self.assertEqual(eased(as_drawing("+-+", "| |", "+-+")), LONE)

    def test_all_hedges_standing(self):
        for wide in range(1, 11):
            for high in range(1, 11):
                self.assertEqual(eased(draw(wide, high, all_hedges(wide, high))), LONE, (wide, high))

    def test_each_square_lone_by_itself(self):
        for wide, high in ((2, 2), (3, 2), (2, 3), (4, 3), (10, 1), (1, 10), (10, 10)):
            for x in range(wide):
                for y in range(high):
                    garden = draw(wide, high, around(x, y, wide, high))
                    self.assertEqual(eased(garden), LONE, (wide, high, x, y))

    def test_a_lone_square_that_easing_would_open_to(self):
        # The dead end above the lone square would open towards it, but it is refused as it was handed in.
        garden = as_drawing("+-+-+-+", "|     |", "+-+-+ +", "| |   |", "+-+-+-+")
        self.assertEqual(eased(garden), LONE)
        garden = as_drawing("+-+-+-+", "|   | |", "+-+-+-+", "|     |", "+-+-+-+")
        self.assertEqual(eased(garden), LONE)

    def test_two_lone_squares(self):
        garden = as_drawing("+-+-+-+", "| |   |", "+-+ +-+", "|   | |", "+-+-+-+")
        self.assertEqual(eased(garden), LONE)

    def test_the_other_refusals_come_ahead(self):
        lone = as_drawing("+-+", "| |", "+-+")
        self.assertEqual(eased(lone + [10]), [-6])
        self.assertEqual(eased(lone[:-1]), [-6])
        self.assertEqual(eased(lone + [10] * 1012), [-6])
        self.assertEqual(eased(lone + [10] * 1013), [-2])
        self.assertEqual(eased(draw(11, 1, all_hedges(11, 1))), [-6])
        self.assertEqual(eased(draw(10, 24, all_hedges(10, 24))), [-2])


class Promises(unittest.TestCase):
    """H3, and the words, on every small garden and on many large ones."""

    def hold(self, wide, high, hedges):
        garden = draw(wide, high, hedges)
        answer = eased(garden)
        if squares_with(0, wide, high, hedges):
            self.assertEqual(answer, LONE, (wide, high, hedges))
            return
        self.assertEqual(answer[0], 0)
        at = places(wide, high)
        standing = {number for number in all_hedges(wide, high) if answer[1:][at[number]] != 32}
        self.assertEqual(answer[1:], draw(wide, high, standing))
        self.assertTrue(standing <= set(hedges))
        opened = set(hedges) - standing
        dead_ends = squares_with(1, wide, high, hedges)
        self.assertLessEqual(len(opened), len(dead_ends))
        for x, y in squares_with(1, wide, high, standing):
            self.assertEqual(hedges_within(x, y, wide, high, standing), [])
        self.assertEqual(standing, eased_one_by_one(wide, high, hedges), (wide, high, hedges))
        self.assertEqual(eased(answer[1:]), answer)
        self.assertEqual(differ(garden, answer[1:]), [0] + sorted(opened))

    def test_every_small_garden(self):
        for wide, high in ((1, 1), (2, 1), (1, 2), (1, 4), (4, 1), (2, 2), (3, 2), (2, 3), (4, 2), (2, 4), (3, 3)):
            for hedges in every_garden(wide, high):
                self.hold(wide, high, hedges)

    def test_large_gardens(self):
        for wide, high, hedges in gardens_by_chance(random.Random(33), 300):
            self.hold(wide, high, hedges)

    def test_large_gardens_without_lone_squares(self):
        chance = random.Random(34)
        for wide, high, hedges in gardens_by_chance(chance, 300):
            standing = set(hedges)
            # A lone square is given one passage, by chance.
            for x, y in squares_with(0, wide, high, standing):
                if wide * high > 1:
                    standing.discard(chance.choice(around(x, y, wide, high)))
            self.hold(wide, high, standing)

    def test_gardens_mended(self):
        # Perfect gardens: no lone square, but for 1 by 1, and a dead end wherever ways end.
        for wide, high, hedges in gardens_by_chance(random.Random(35), 100):
            mended = done(draw(wide, high, hedges))[1:]
            at = places(wide, high)
            self.hold(wide, high, [number for number in range(side_count(wide, high)) if mended[at[number]] != 32])


if __name__ == "__main__":
    unittest.main()
