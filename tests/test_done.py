"""done: the garden mended is perfect, by the fewest changes (H1), the first of these (H2)."""

import random
import unittest

from drawings import all_hedges, as_drawing, draw, inner_places, level, places, rooms, side_count
from mazemends.garden import done, plant, to_open
from words import every_garden, first_fewest_mended, gardens_by_chance, is_perfect, mended_one_by_one, rings


class Written(unittest.TestCase):
    """Gardens written out by hand, with the garden mended beside them."""

    def mended(self, before, after):
        self.assertEqual(done(as_drawing(*before)), [0] + as_drawing(*after))

    def test_one_square(self):
        self.mended(("+-+", "| |", "+-+"), ("+-+", "| |", "+-+"))

    def test_two_squares(self):
        self.mended(("+-+-+", "| | |", "+-+-+"), ("+-+-+", "|   |", "+-+-+"))
        self.mended(("+-+-+", "|   |", "+-+-+"), ("+-+-+", "|   |", "+-+-+"))
        self.mended(("+-+", "| |", "+-+", "| |", "+-+"), ("+-+", "| |", "+ +", "| |", "+-+"))
        self.mended(("+-+", "| |", "+ +", "| |", "+-+"), ("+-+", "| |", "+ +", "| |", "+-+"))

    def test_high_1_and_wide_1(self):
        self.mended(("+-+-+-+", "| |   |", "+-+-+-+"), ("+-+-+-+", "|     |", "+-+-+-+"))
        self.mended(
            ("+-+", "| |", "+-+", "| |", "+ +", "| |", "+-+", "| |", "+-+"),
            ("+-+", "| |", "+ +", "| |", "+ +", "| |", "+ +", "| |", "+-+"))

    def test_perfect_already(self):
        for lines in (
                ("+-+-+", "| | |", "+ + +", "|   |", "+-+-+"),
                ("+-+-+", "|   |", "+ + +", "| | |", "+-+-+"),
                ("+-+-+-+", "|     |", "+-+-+ +", "|     |", "+-+-+-+"),
                ("+-+-+", "|   |", "+-+ +", "|   |", "+ +-+", "|   |", "+-+-+")):
            self.mended(lines, lines)

    def test_several_rooms(self):
        self.mended(
            ("+-+-+", "| | |", "+-+-+", "| | |", "+-+-+"),
            ("+-+-+", "|   |", "+ +-+", "|   |", "+-+-+"))

    def test_one_ring(self):
        self.mended(
            ("+-+-+", "|   |", "+ + +", "|   |", "+-+-+"),
            ("+-+-+", "| | |", "+ + +", "|   |", "+-+-+"))

    def test_two_rings(self):
        self.mended(
            ("+-+-+-+", "|     |", "+ + + +", "|     |", "+-+-+-+"),
            ("+-+-+-+", "| | | |", "+ + + +", "|     |", "+-+-+-+"))

    def test_rooms_and_rings(self):
        self.mended(
            ("+-+-+-+", "|   | |", "+ + +-+", "|   | |", "+-+-+-+"),
            ("+-+-+-+", "| |   |", "+ + +-+", "|     |", "+-+-+-+"))
        self.mended(
            ("+-+-+", "|   |", "+-+-+", "|   |", "+ + +", "|   |", "+-+-+"),
            ("+-+-+", "|   |", "+ +-+", "| | |", "+ + +", "|   |", "+-+-+"))

    def test_rings_in_rooms_that_no_way_joins(self):
        self.mended(
            ("+-+-+-+-+", "|   |   |", "+ + + + +", "|   |   |", "+-+-+-+-+"),
            ("+-+-+-+-+", "| |   | |", "+ + + + +", "|   |   |", "+-+-+-+-+"))

    def test_a_garden_changed_between_is_read_anew(self):
        garden = draw(2, 1, [])
        self.assertEqual(done(garden), [0] + draw(2, 1, []))
        garden[8] = 124
        self.assertEqual(done(garden), [0] + draw(2, 1, []))
        garden[8] = 45
        self.assertEqual(done(garden), [-6])


class Sizes(unittest.TestCase):

    def test_all_hedges_standing(self):
        for wide in range(1, 11):
            for high in range(1, 11):
                # The rows, joined along their left ends.
                left = [level(x, y, wide, high) for y in range(high - 1) for x in range(1, wide)]
                self.assertEqual(done(draw(wide, high, all_hedges(wide, high))), [0] + draw(wide, high, left))

    def test_no_hedge_standing(self):
        for wide in range(1, 11):
            for high in range(1, 11):
                # The columns, joined along their lower ends.
                standing = list(range((high - 1) * (wide - 1)))
                self.assertEqual(done(draw(wide, high, [])), [0] + draw(wide, high, standing))

    def test_perfect_gardens_stay(self):
        chance = random.Random(3)
        for turn in range(100):
            wide, high = chance.randint(1, 10), chance.randint(1, 10)
            numbers = list(range(side_count(wide, high)))
            chance.shuffle(numbers)
            hedges = set(numbers)
            for number in numbers:
                if len(rooms(wide, high, hedges - {number})) < len(rooms(wide, high, hedges)):
                    hedges.remove(number)
            garden = draw(wide, high, hedges)
            self.assertEqual(done(garden), [0] + garden, (wide, high, hedges))


class Promises(unittest.TestCase):
    """H1 and H2 for the garden mended."""

    def hold(self, wide, high, hedges):
        garden = draw(wide, high, hedges)
        answer = done(garden)
        self.assertEqual(answer[0], 0)
        mended = answer[1:]
        self.assertEqual(len(mended), len(garden))
        opened, planted = to_open(garden)[1:], plant(garden)[1:]
        # It differs at just the inner sides that the two calls tell, and is a whole drawing.
        changed = [place for place in range(len(garden)) if garden[place] != mended[place]]
        self.assertTrue(set(changed) <= set(inner_places(wide, high)))
        self.assertEqual(changed, sorted(places(wide, high)[number] for number in opened + planted))
        standing = (set(hedges) - set(opened)) | set(planted)
        self.assertEqual(mended, draw(wide, high, standing))
        self.assertEqual(len(changed), len(rooms(wide, high, hedges)) - 1 + rings(wide, high, hedges))
        self.assertTrue(is_perfect(wide, high, standing))
        self.assertEqual(to_open(mended), [0])
        self.assertEqual(plant(mended), [0])
        self.assertEqual(done(mended), answer)
        return standing

    def test_every_small_garden(self):
        for wide, high in ((1, 1), (2, 1), (1, 2), (1, 4), (4, 1), (2, 2), (3, 2), (2, 3)):
            for hedges in every_garden(wide, high):
                standing = self.hold(wide, high, hedges)
                self.assertEqual(standing, first_fewest_mended(wide, high, hedges), (wide, high, hedges))

    def test_large_gardens(self):
        for wide, high, hedges in gardens_by_chance(random.Random(30), 150):
            standing = self.hold(wide, high, hedges)
            self.assertEqual(standing, mended_one_by_one(wide, high, hedges), (wide, high, hedges))


if __name__ == "__main__":
    unittest.main()
