"""How many stands and doings there are, and how many stands come to one."""

import random
import unittest
from itertools import accumulate
from math import comb

from pushshelf.counted import doings, leading, stands
from pushshelf.doings import led
from tests import helpers

SHELF = (20, (3, 4, 5))  # play 8
LEFT, RIGHT = (0, 3, 7), (8, 11, 15)
LARGE = [helpers.EIGHT, (8 + 400, (1,) * 8), (36 + 400, (1, 2, 3, 4, 5, 6, 7, 8)), (450, (50,)), (43 + 399, (1, 42))]


def stands_block_by_block(shelf):
    ways = [1] * (helpers.play(shelf) + 1)
    for block in shelf[1][1:]:
        ways = list(accumulate(ways))
    return sum(ways)


def doings_block_by_block(shelf):
    """Of each least and greatest place of the last block, how many doings of the blocks so far have them."""
    every = range(helpers.play(shelf) + 1)
    ways = [[int(low <= high) for high in every] for low in every]
    for block in shelf[1][1:]:
        rows = [[0] * len(ways)]
        for line in ways:
            rows.append([above + here for above, here in zip(rows[-1], accumulate(line))])
        ways = [[ways if low <= high else 0 for high, ways in enumerate(rows[low + 1])] for low in every]
    return sum(map(sum, ways))


def leading_from_the_last_block(shelf, doing, stand):
    """Counted backwards: the ways for the blocks from one on, by its place."""
    play = helpers.play(shelf)
    parts = zip(*(helpers.places(shelf, part) for part in [doing[0], stand, doing[1]]))
    ways = [1] * (play + 1)
    for low, place, high in reversed(list(parts)):
        led_there = [many if min(max(at, low), high) == place else 0 for at, many in enumerate(ways)]
        ways = list(accumulate(reversed(led_there)))[::-1]
    return ways[0]


class Stands(unittest.TestCase):
    def test_told_by_hand(self):
        for shelf, many in [
            ((7, (7,)), 1), ((9, (5,)), 5), ((450, (50,)), 401), ((3, (1, 2)), 1), ((4, (1, 2)), 3), ((5, (1, 2)), 6),
            ((8, (1,) * 8), 1), ((9, (1,) * 8), 9), (SHELF, 165), (helpers.EIGHT, comb(408, 8)),
        ]:
            self.assertEqual(stands(shelf), many, shelf)

    def test_counted_one_by_one(self):
        for shelf in helpers.SHELVES + helpers.TINY_SHELVES + [SHELF, (11, (1,) * 8), (30, (3, 3, 3, 3, 13))]:
            self.assertEqual(stands(shelf), len(set(helpers.all_stands(shelf))), shelf)

    def test_lengths_do_not_matter(self):
        self.assertEqual(stands((20, (3, 4, 5))), stands((11, (1, 1, 1))))

    def test_the_greatest_shelves(self):
        for shelf in LARGE:
            self.assertEqual(stands(shelf), stands_block_by_block(shelf), shelf)

    def test_shelves_of_all_sizes(self):
        chance = random.Random(21)
        for many in range(1, 9):
            for play in [0, 1, 2, 17, 399, 400]:
                blocks = tuple(chance.randint(1, 50) for step in range(many))
                shelf = (sum(blocks) + play, blocks)
                self.assertEqual(stands(shelf), stands_block_by_block(shelf), shelf)


class Doings(unittest.TestCase):
    def test_told_by_hand(self):
        for shelf, many in [
            ((7, (7,)), 1), ((9, (5,)), 15), ((450, (50,)), 401 * 201), ((3, (1, 2)), 1), ((4, (1, 2)), 6),
            ((5, (1, 2)), 20), ((8, (1,) * 8), 1), ((9, (1,) * 8), 45),
        ]:
            self.assertEqual(doings(shelf), many, shelf)

    def test_counted_one_by_one(self):
        for shelf in helpers.SHELVES + helpers.TINY_SHELVES + [SHELF, (11, (1,) * 8)]:
            self.assertEqual(doings(shelf), len(set(helpers.all_doings(shelf))), shelf)

    def test_the_greatest_shelves(self):
        for shelf in LARGE:
            self.assertEqual(doings(shelf), doings_block_by_block(shelf), shelf)

    def test_shelves_of_all_sizes(self):
        for many in range(1, 9):
            for play in [0, 1, 2, 17, 60]:
                shelf = (3 * many + play, (3,) * many)
                self.assertEqual(doings(shelf), doings_block_by_block(shelf), shelf)


class Leading(unittest.TestCase):
    def test_told_by_hand(self):
        for doing, stand, many in [
            ((LEFT, RIGHT), (1, 6, 11), 1),
            ((LEFT, RIGHT), LEFT, 1),
            ((LEFT, RIGHT), RIGHT, 1),
            ((LEFT, LEFT), LEFT, 165),
            ((RIGHT, RIGHT), RIGHT, 165),
            ((LEFT, LEFT), RIGHT, 0),
            (((1, 6, 11), (1, 6, 11)), (1, 6, 11), 165),
            (((2, 5, 9), RIGHT), (2, 5, 9), 10),
            (((2, 5, 9), RIGHT), (2, 5, 10), 6),
            (((2, 5, 9), RIGHT), (1, 5, 9), 0),
            ((LEFT, (6, 9, 13)), (6, 9, 13), 10),
        ]:
            self.assertEqual(leading(SHELF, doing, stand), many, (doing, stand))

    def test_all_stands_led_one_by_one(self):
        for shelf in helpers.TINY_SHELVES + [(3, (1, 2)), (7, (2, 1)), (6, (1, 1, 1, 1))]:
            every = helpers.all_stands(shelf)
            for doing in helpers.all_doings(shelf):
                ends = [led(shelf, doing, stand) for stand in every]
                for stand in every:
                    self.assertEqual(leading(shelf, doing, stand), ends.count(stand), (shelf, doing, stand))

    def test_every_stand_is_led_to_one(self):
        chance = random.Random(22)
        for shelf in helpers.SHELVES + [SHELF]:
            for step in range(10):
                doing = helpers.any_doing(chance, shelf)
                many = sum(leading(shelf, doing, stand) for stand in helpers.all_stands(shelf))
                self.assertEqual(many, stands(shelf))

    def test_the_greatest_shelves(self):
        chance = random.Random(23)
        told = set()
        for shelf in LARGE * 12:
            doing = helpers.any_doing(chance, shelf)
            start = helpers.any_stand(chance, shelf)
            for stand in [start, led(shelf, doing, start), doing[0], doing[1]]:
                many = leading(shelf, doing, stand)
                self.assertEqual(many, leading_from_the_last_block(shelf, doing, stand), (shelf, doing, stand))
                told.add(many > 1)
            self.assertEqual(leading(shelf, (start, start), start), stands(shelf))
        self.assertEqual(told, {True, False})

    def test_a_stand_that_the_doing_does_not_lead_to(self):
        chance = random.Random(24)
        for many in range(1, 9):
            shelf = (50 * many + 400, (50,) * many)
            doing = tuple(helpers.stand_at(shelf, [place] * many) for place in [100, 300])
            for place in [0, 99, 301, 400]:
                self.assertEqual(leading(shelf, doing, helpers.stand_at(shelf, [place] * many)), 0)
            inner = sorted(chance.randint(101, 299) for step in range(many))
            self.assertEqual(leading(shelf, doing, helpers.stand_at(shelf, inner)), 1)
            self.assertEqual(leading(shelf, doing, doing[0]), comb(100 + many, many))
            self.assertEqual(leading(shelf, doing, doing[1]), comb(100 + many, many))


class Kinds(unittest.TestCase):
    def test_numbers_are_told(self):
        for told in [stands(SHELF), doings(SHELF), leading(SHELF, (LEFT, RIGHT), LEFT), leading(SHELF, (LEFT, LEFT), RIGHT)]:
            self.assertIs(type(told), int)


if __name__ == "__main__":
    unittest.main()
