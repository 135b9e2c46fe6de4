"""differ: the inner sides at which two gardens differ, and the refusals of two drawings."""

import itertools
import random
import unittest

from drawings import Untouched, all_hedges, as_drawing, draw, side_count
from mazemends.garden import differ, done, plant, to_open
from words import every_garden, gardens_by_chance

SIZES = [(wide, high) for wide in range(1, 11) for high in range(1, 11)]
FEW_SIZES = ((1, 1), (2, 1), (1, 2), (10, 1), (1, 10), (4, 3), (3, 4), (10, 10))


class Written(unittest.TestCase):
    """Gardens written out by hand, with the answers counted out by hand."""

    def differs(self, one, other, numbers):
        self.assertEqual(differ(as_drawing(*one), as_drawing(*other)), [0] + numbers)
        self.assertEqual(differ(as_drawing(*other), as_drawing(*one)), [0] + numbers)

    def test_one_square(self):
        self.differs(("+-+", "| |", "+-+"), ("+-+", "| |", "+-+"), [])

    def test_two_squares(self):
        self.differs(("+-+-+", "| | |", "+-+-+"), ("+-+-+", "|   |", "+-+-+"), [0])
        self.differs(("+-+-+", "| | |", "+-+-+"), ("+-+-+", "| | |", "+-+-+"), [])
        self.differs(("+-+", "| |", "+-+", "| |", "+-+"), ("+-+", "| |", "+ +", "| |", "+-+"), [0])
        self.differs(("+-+", "| |", "+ +", "| |", "+-+"), ("+-+", "| |", "+ +", "| |", "+-+"), [])

    def test_upright_ones_and_level_ones(self):
        before = ("+-+-+-+", "|   | |", "+ +-+ +", "| |   |", "+-+-+-+")
        # Uprights are 0, 1 above and 2, 3 below; level ones are 4, 5, 6.
        self.differs(before, before, [])
        self.differs(before, ("+-+-+-+", "| | | |", "+ +-+ +", "| |   |", "+-+-+-+"), [0])
        self.differs(before, ("+-+-+-+", "|     |", "+ +-+ +", "| |   |", "+-+-+-+"), [1])
        self.differs(before, ("+-+-+-+", "|   | |", "+ +-+ +", "| | | |", "+-+-+-+"), [3])
        self.differs(before, ("+-+-+-+", "|   | |", "+ + + +", "| |   |", "+-+-+-+"), [5])
        self.differs(before, ("+-+-+-+", "|   | |", "+ +-+-+", "| |   |", "+-+-+-+"), [6])
        self.differs(before, ("+-+-+-+", "|     |", "+-+-+ +", "| | | |", "+-+-+-+"), [1, 3, 4])
        self.differs(before, ("+-+-+-+", "| |   |", "+-+ +-+", "|   | |", "+-+-+-+"), [0, 1, 2, 3, 4, 5, 6])


class Sizes(unittest.TestCase):

    def test_alike(self):
        for wide, high in SIZES:
            for hedges in ([], all_hedges(wide, high), range(0, side_count(wide, high), 2)):
                garden = draw(wide, high, hedges)
                self.assertEqual(differ(garden, list(garden)), [0], (wide, high))

    def test_the_same_list_twice(self):
        for wide, high in FEW_SIZES:
            garden = draw(wide, high, range(0, side_count(wide, high), 3))
            self.assertEqual(differ(garden, garden), [0], (wide, high))

    def test_at_one_inner_side(self):
        for wide, high in FEW_SIZES:
            for start in (0, 1):
                hedges = set(range(start, side_count(wide, high), 2))
                garden = draw(wide, high, hedges)
                for number in range(side_count(wide, high)):
                    other = draw(wide, high, hedges ^ {number})
                    self.assertEqual(differ(garden, other), [0, number], (wide, high, number))
                    self.assertEqual(differ(other, garden), [0, number], (wide, high, number))

    def test_at_all(self):
        for wide, high in SIZES:
            numbers = all_hedges(wide, high)
            for hedges in ([], numbers[::2], numbers[1::2], numbers[::3], numbers):
                rest = [number for number in numbers if number not in hedges]
                self.assertEqual(differ(draw(wide, high, hedges), draw(wide, high, rest)), [0] + numbers)

    def test_hedges_against_none_and_none_against_hedges(self):
        for wide, high in SIZES:
            hedges = all_hedges(wide, high)[::4]
            self.assertEqual(differ(draw(wide, high, hedges), draw(wide, high, [])), [0] + hedges)
            self.assertEqual(differ(draw(wide, high, []), draw(wide, high, hedges)), [0] + hedges)


class Many(unittest.TestCase):

    def test_every_two_small_gardens(self):
        for wide, high in ((1, 1), (2, 1), (1, 2), (1, 4), (4, 1), (2, 2)):
            for one, other in itertools.product(list(every_garden(wide, high)), repeat=2):
                answer = differ(draw(wide, high, one), draw(wide, high, other))
                self.assertEqual(answer, [0] + sorted(set(one) ^ set(other)), (wide, high, one, other))

    def test_large_gardens(self):
        chance = random.Random(31)
        for wide, high, hedges in gardens_by_chance(chance, 200):
            part = chance.choice((0.02, 0.2, 0.5, 0.9))
            changed = [n for n in range(side_count(wide, high)) if chance.random() < part]
            other = set(hedges) ^ set(changed)
            self.assertEqual(differ(draw(wide, high, hedges), draw(wide, high, other)), [0] + changed)

    def test_a_garden_and_the_garden_mended(self):
        for wide, high, hedges in gardens_by_chance(random.Random(32), 100):
            garden = draw(wide, high, hedges)
            changes = sorted(to_open(garden)[1:] + plant(garden)[1:])
            self.assertEqual(differ(garden, done(garden)[1:]), [0] + changes)


class OtherSize(unittest.TestCase):

    def test_any_two_sizes(self):
        bare = {size: draw(size[0], size[1], []) for size in SIZES}
        full = {size: draw(size[0], size[1], all_hedges(size[0], size[1])) for size in SIZES}
        for one, other in itertools.product(SIZES, repeat=2):
            if one != other:
                self.assertEqual(differ(bare[one], full[other]), [-9], (one, other))

    def test_as_many_squares_but_another_form(self):
        for one, other in (((2, 3), (3, 2)), ((1, 2), (2, 1)), ((1, 10), (10, 1)), ((2, 6), (3, 4)), ((4, 9), (6, 6))):
            for first, second in ((one, other), (other, one)):
                garden = draw(first[0], first[1], [])
                self.assertEqual(differ(garden, draw(second[0], second[1], [])), [-9], (first, second))

    def test_as_many_bytes_but_another_form(self):
        # 9 lines of 10 bytes and 15 of 6 are 90; 15 of 14 and 21 of 10 are 210.
        for one, other in (((4, 4), (2, 7)), ((6, 7), (4, 10))):
            first, second = draw(one[0], one[1], []), draw(other[0], other[1], [])
            self.assertEqual(len(first), len(second))
            self.assertEqual(differ(first, second), [-9])
            self.assertEqual(differ(second, first), [-9])

    def test_another_width_another_height_both(self):
        garden = draw(3, 2, [])
        for wide, high in ((2, 2), (4, 2), (3, 1), (3, 3), (2, 1), (4, 3), (2, 3), (4, 1)):
            self.assertEqual(differ(garden, draw(wide, high, [])), [-9], (wide, high))
            self.assertEqual(differ(draw(wide, high, []), garden), [-9], (wide, high))


class Refusals(unittest.TestCase):
    """-2 of either, then -6 of either, then -9."""

    too_long = ([43] * 1025, [0] * 1100, draw(3, 2, []) + [10] * 1000, draw(10, 24, []))
    at_fault = ([], [43], [10] * 1024, draw(3, 2, []) + [10], draw(3, 2, [])[:-1], draw(11, 2, []), draw(2, 11, []),
                as_drawing("+-+-+-+", "|     |", "+ + + +", "|     |", "+-+ +-+"))
    taken = (draw(3, 2, []), draw(2, 3, []), draw(1, 1, []), draw(10, 10, range(0, 180, 2)))

    def refused(self, ones, others, refusal):
        for one, other in itertools.product(ones, others):
            self.assertEqual(differ(one, other), refusal, (one, other))
            self.assertEqual(differ(other, one), refusal, (other, one))

    def test_too_long_beside_a_drawing(self):
        self.refused(self.too_long, self.taken, [-2])

    def test_too_long_beside_one_at_fault(self):
        self.refused(self.too_long, self.at_fault, [-2])

    def test_both_too_long(self):
        self.refused(self.too_long, self.too_long, [-2])

    def test_at_fault_beside_a_drawing_of_whatever_size(self):
        self.refused(self.at_fault, self.taken, [-6])

    def test_both_at_fault(self):
        self.refused(self.at_fault, self.at_fault, [-6])

    def test_1024_bytes_are_not_too_many(self):
        self.refused(([124] * 1024,), self.taken, [-6])
        self.refused(([124] * 1025,), self.taken, [-2])

    def test_the_same_list_twice(self):
        for garden in self.too_long:
            self.assertEqual(differ(garden, garden), [-2])
        for garden in self.at_fault:
            self.assertEqual(differ(garden, garden), [-6])


class Interface(unittest.TestCase):

    gardens = Refusals.too_long + Refusals.at_fault + Refusals.taken + (draw(3, 2, [0, 4]), draw(10, 10, []))

    def test_both_lists_stay_the_same(self):
        for one, other in itertools.product(self.gardens, repeat=2):
            first, second = list(one), list(other)
            answer = differ(first, second)
            self.assertEqual((first, second), (one, other))
            self.assertEqual(differ(Untouched(one), Untouched(other)), answer)

    def test_a_second_time_gives_the_same(self):
        pairs = list(itertools.product(self.gardens, repeat=2))
        first = [differ(one, other) for one, other in pairs]
        second = [differ(one, other) for one, other in reversed(pairs)]
        self.assertEqual(first, second[::-1])

    def test_the_order_of_the_two_changes_nothing(self):
        for one, other in itertools.product(self.gardens, repeat=2):
            self.assertEqual(differ(one, other), differ(other, one))


if __name__ == "__main__":
    unittest.main()
