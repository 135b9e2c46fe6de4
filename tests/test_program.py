"""The whole program: its interface, and H1, H2 and H3 held together over all calls."""

import inspect
import random
import unittest

from drawings import all_hedges, draw, places, rooms, side_count
from mazemends import garden as module
from mazemends.garden import differ, done, eased, plant, to_open
from words import (eased_one_by_one, first_fewest_mended, gardens_by_chance, hedges_within, is_perfect,
                   mended_one_by_one, rings, squares_with)


def hedges_of(drawing, wide, high):
    at = places(wide, high)
    return {number for number in all_hedges(wide, high) if drawing[at[number]] != 32}


class Names(unittest.TestCase):

    def test_the_calls_and_their_arguments(self):
        arguments = {"to_open": ["garden"], "plant": ["garden"], "done": ["garden"],
                     "differ": ["garden", "other"], "eased": ["garden"]}
        for name, expected in arguments.items():
            call = getattr(module, name)
            self.assertEqual(list(inspect.signature(call).parameters), expected, name)

    def test_arguments_by_name(self):
        drawing = draw(2, 2, [])
        self.assertEqual(to_open(garden=drawing), [0])
        self.assertEqual(plant(garden=drawing), [0, 0])
        self.assertEqual(done(garden=drawing), [0] + draw(2, 2, [0]))
        self.assertEqual(differ(garden=drawing, other=draw(2, 2, [3])), [0, 3])
        self.assertEqual(eased(garden=drawing), [0] + drawing)


class Promises(unittest.TestCase):

    def mends(self, wide, high, hedges):
        """H1: perfect, with rooms less one opened and rings planted. Gives the hedges of the garden mended."""
        drawing = draw(wide, high, hedges)
        opened, planted, mended = to_open(drawing), plant(drawing), done(drawing)
        self.assertEqual([opened[0], planted[0], mended[0]], [0, 0, 0])
        self.assertEqual(len(opened) - 1, len(rooms(wide, high, hedges)) - 1)
        self.assertEqual(len(planted) - 1, rings(wide, high, hedges))
        standing = hedges_of(mended[1:], wide, high)
        self.assertEqual(mended[1:], draw(wide, high, standing))
        self.assertEqual(opened[1:], sorted(set(hedges) - standing))
        self.assertEqual(planted[1:], sorted(standing - set(hedges)))
        self.assertEqual(differ(drawing, mended[1:]), [0] + sorted(opened[1:] + planted[1:]))
        self.assertTrue(is_perfect(wide, high, standing))
        self.assertEqual([to_open(mended[1:]), plant(mended[1:]), done(mended[1:])], [[0], [0], mended])
        return standing

    def eases(self, wide, high, hedges):
        """H3: nothing planted, no more opened than there were dead ends, no hedge within at those left."""
        answer = eased(draw(wide, high, hedges))
        if squares_with(0, wide, high, hedges):
            self.assertEqual(answer, [-5])
            return
        standing = hedges_of(answer[1:], wide, high)
        self.assertEqual(answer, [0] + draw(wide, high, standing))
        self.assertTrue(standing <= set(hedges))
        self.assertLessEqual(len(hedges) - len(standing), len(squares_with(1, wide, high, hedges)))
        for x, y in squares_with(1, wide, high, standing):
            self.assertEqual(hedges_within(x, y, wide, high, standing), [])
        self.assertEqual(standing, eased_one_by_one(wide, high, hedges))

    def test_the_first_of_the_fewest_among_all_changes(self):
        chance = random.Random(36)
        for wide, high in ((3, 3), (5, 2), (2, 5)):
            numbers = range(side_count(wide, high))
            for turn in range(12):
                hedges = [number for number in numbers if chance.random() < 0.5]
                standing = self.mends(wide, high, hedges)
                self.assertEqual(standing, first_fewest_mended(wide, high, hedges), (wide, high, hedges))

    def test_many_gardens(self):
        for wide, high, hedges in gardens_by_chance(random.Random(37), 200):
            standing = self.mends(wide, high, hedges)
            self.assertEqual(standing, mended_one_by_one(wide, high, hedges), (wide, high, hedges))
            self.eases(wide, high, hedges)
            self.eases(wide, high, standing)

    def test_every_size(self):
        chance = random.Random(38)
        for wide in range(1, 11):
            for high in range(1, 11):
                numbers = all_hedges(wide, high)
                for hedges in ([], numbers, [number for number in numbers if chance.random() < 0.45]):
                    standing = self.mends(wide, high, hedges)
                    self.eases(wide, high, hedges)
                    self.eases(wide, high, standing)


if __name__ == "__main__":
    unittest.main()
