"""What is a shelf, a stand, a row; and the stand behind a row."""

import random
import unittest
from itertools import product

from pushshelf.shelves import behind, is_row, is_shelf, is_stand
from tests import helpers

SHELF = (20, (3, 4, 5))  # play 8; gaps of length 0, 3, 7, 12


class Shelves(unittest.TestCase):
    def test_shelves(self):
        for shelf in [(1, (1,)), (401, (1,)), (50, (50,)), (450, (50,)), SHELF, helpers.EIGHT, (8, (1,) * 8)]:
            self.assertIs(is_shelf(shelf), True, shelf)
        for shelf in helpers.SHELVES + helpers.TINY_SHELVES:
            self.assertIs(is_shelf(shelf), True, shelf)

    def test_shelves_of_one_to_eight_blocks(self):
        for many in range(12):
            blocks = (2,) * many
            self.assertIs(is_shelf((2 * many + 3, blocks)), 1 <= many <= 8, many)

    def test_lengths_from_1_to_50(self):
        for length in [-1, 0, 1, 2, 49, 50, 51]:
            for blocks in [(length,), (length, 9), (9, length), (9, length, 9)]:
                self.assertIs(is_shelf((sum(blocks) + 1, blocks)), 1 <= length <= 50, blocks)

    def test_play_from_0_to_400(self):
        for extra in [-30, -1, 0, 1, 399, 400, 401, 10 ** 39]:
            for blocks in [(1,), (50,), (20, 30), (50,) * 8]:
                self.assertIs(is_shelf((sum(blocks) + extra, blocks)), 0 <= extra <= 400, (extra, blocks))

    def test_wrong_forms_of_a_shelf(self):
        for thing in [
            [9, (5,)], (9, [5]), [9, [5]], (9, 5), ((5,), 9), (9, (5,), 0), (9,), (9, (5,), (5,)),
            (True, (1,)), (1, (True,)), (2, (1, True)), ("9", (5,)), (9, ("5",)), (None, (5,)), (9, (None,)),
            (9, ((5,),)), ((9,), (5,)), (9, (5, None)), (9, (5, False)), (9, "5"),
        ]:
            self.assertIs(is_shelf(thing), False, thing)

    def test_things_of_all_kinds_are_no_shelves(self):
        for thing in helpers.ODD_THINGS:
            self.assertIs(is_shelf(thing), False, thing)


class Stands(unittest.TestCase):
    def test_all_stands_of_small_shelves_and_nothing_else(self):
        for shelf in helpers.SHELVES:
            stands = set(helpers.all_stands(shelf))
            if len(shelf[1]) > 3:
                continue
            for thing in product(range(-1, shelf[0] + 2), repeat=len(shelf[1])):
                self.assertIs(is_stand(shelf, thing), thing in stands, (shelf, thing))

    def test_edges(self):
        for stand in [(0, 3, 7), (8, 11, 15), (0, 3, 15), (0, 11, 15), (2, 6, 10)]:
            self.assertIs(is_stand(SHELF, stand), True, stand)
        for thing in [(-1, 3, 7), (0, 2, 7), (0, 3, 6), (0, 3, 16), (9, 12, 16), (8, 10, 15), (3, 0, 7), (10 ** 39,) * 3]:
            self.assertIs(is_stand(SHELF, thing), False, thing)

    def test_eight_blocks(self):
        stand = tuple(50 * at for at in range(8))
        self.assertIs(is_stand(helpers.EIGHT, stand), True)
        self.assertIs(is_stand(helpers.EIGHT, tuple(left + 400 for left in stand)), True)
        self.assertIs(is_stand(helpers.EIGHT, tuple(left + 401 for left in stand)), False)
        self.assertIs(is_stand(helpers.EIGHT, stand[:7]), False)

    def test_wrong_forms_of_a_stand(self):
        for thing in [
            [0, 3, 7], (0, 3), (0, 3, 7, 12), (False, 3, 7), ("0", 3, 7), (0, 3, None), (0, (3,), 7), ((0, 3, 7),),
            (0, 3, [7]), 0, "0", "037", ["0", "3", "7"],
        ]:
            self.assertIs(is_stand(SHELF, thing), False, thing)
        self.assertIs(is_stand((3, (1, 1)), (0, True)), False)
        self.assertIs(is_stand((3, (1,)), (True,)), False)
        self.assertIs(is_stand((3, (1,)), (False,)), False)

    def test_things_of_all_kinds_are_no_stands(self):
        for shelf in helpers.SHELVES + [SHELF, helpers.EIGHT]:
            for thing in helpers.ODD_THINGS:
                self.assertIs(is_stand(shelf, thing), False, (shelf, thing))


class Rows(unittest.TestCase):
    def test_rows_of_all_pushes(self):
        for shelf in helpers.SHELVES:
            pushes = set(helpers.all_pushes(shelf))
            gaps, places = range(-1, len(shelf[1]) + 2), range(-1, shelf[0] + 2)
            for push in product(["right", "left"], gaps, places):
                self.assertIs(is_row(shelf, [push]), push in pushes, (shelf, push))

    def test_gaps_at_the_ends(self):
        self.assertIs(is_row(SHELF, [("right", 0, 4), ("left", 3, 15), ("right", 2, 9), ("left", 1, 5)]), True)
        for push in [("right", 3, 15), ("left", 0, 4), ("right", -1, 4), ("left", 4, 15), ("right", 10 ** 39, 15)]:
            self.assertIs(is_row(SHELF, [push]), False, push)

    def test_places_at_the_edges(self):
        for gap, length in enumerate([0, 3, 7, 12]):
            for side in ["right"] * (gap < 3) + ["left"] * (gap > 0):
                for place in [length, length + 8]:
                    self.assertIs(is_row(SHELF, [(side, gap, place)]), True, (side, gap, place))
                for place in [length - 1, length + 9]:
                    self.assertIs(is_row(SHELF, [(side, gap, place)]), False, (side, gap, place))

    def test_numbers_of_pushes(self):
        push = ("right", 0, 0)
        for many in [0, 1, 2, 199, 200, 201, 202, 400]:
            self.assertIs(is_row(SHELF, [push] * many), many <= 200, many)

    def test_one_wrong_push_makes_no_row(self):
        good = ("right", 0, 0)
        for at in range(3):
            row = [good, good]
            row.insert(at, ("left", 0, 0))
            self.assertIs(is_row(SHELF, row), False, row)

    def test_wrong_forms_of_a_row(self):
        good = ("right", 1, 5)
        for thing in [
            (), (good,), good, [list(good)], [[good]], [(good,)], [good[:2]], [good + (0,)], [("Right", 1, 5)],
            [("up", 1, 5)], [("", 1, 5)], [(None, 1, 5)], [(1, "right", 5)], [("right", True, 5)], [("right", False, 0)],
            [("left", True, 5)], [("right", "1", 5)], [("right", None, 5)], [("right", 1, "5")], [("right", 1, None)],
            [("right", (1,), 5)], [("right", 1, [5])], [(("right",), 1, 5)], [(["right"], 1, 5)], [("right ", 1, 5)],
            [good, None], [good, ()], "right", {},
        ]:
            self.assertIs(is_row(SHELF, thing), False, thing)
        self.assertIs(is_row((3, (1,)), [("right", 0, True)]), False)
        self.assertIs(is_row((3, (1,)), [("right", 0, False)]), False)

    def test_things_of_all_kinds_are_no_rows(self):
        for shelf in helpers.SHELVES + [SHELF, helpers.EIGHT]:
            for thing in helpers.ODD_THINGS:
                self.assertIs(is_row(shelf, thing), False, (shelf, thing))
                self.assertIs(is_row(shelf, [thing]), False, (shelf, thing))


class Behind(unittest.TestCase):
    def test_what_a_push_does_block_by_block(self):
        for push, stand in [
            (("right", 0, 0), (1, 6, 11)),
            (("right", 0, 1), (1, 6, 11)),
            (("right", 0, 2), (2, 6, 11)),
            (("right", 0, 4), (4, 7, 11)),
            (("right", 0, 5), (5, 8, 12)),
            (("right", 0, 8), (8, 11, 15)),
            (("right", 1, 7), (1, 7, 11)),
            (("right", 1, 11), (1, 11, 15)),
            (("right", 2, 11), (1, 6, 11)),
            (("right", 2, 13), (1, 6, 13)),
            (("left", 1, 4), (1, 6, 11)),
            (("left", 1, 3), (0, 6, 11)),
            (("left", 2, 10), (1, 6, 11)),
            (("left", 2, 8), (1, 4, 11)),
            (("left", 2, 7), (0, 3, 11)),
            (("left", 3, 16), (1, 6, 11)),
            (("left", 3, 15), (1, 6, 10)),
            (("left", 3, 14), (1, 5, 9)),
            (("left", 3, 12), (0, 3, 7)),
        ]:
            self.assertEqual(behind(SHELF, (1, 6, 11), [push]), stand, push)

    def test_every_push_moves_no_farther_than_it_must(self):
        for shelf in helpers.SHELVES:
            for push in helpers.all_pushes(shelf):
                for stand in helpers.all_stands(shelf):
                    told = behind(shelf, stand, [push])
                    self.assertEqual(told, helpers.nearest_stand(shelf, stand, push), (shelf, stand, push))

    def test_the_pushes_of_a_row_are_done_in_their_order(self):
        self.assertEqual(behind(SHELF, (0, 3, 7), [("right", 0, 8), ("left", 2, 8)]), (1, 4, 15))
        self.assertEqual(behind(SHELF, (0, 3, 7), [("left", 2, 8), ("right", 0, 8)]), (8, 11, 15))
        chance = random.Random(1)
        for many in range(1, 9):
            shelf = helpers.any_shelf(chance, many)
            row = helpers.any_row(chance, shelf, 40)
            start = stand = helpers.any_stand(chance, shelf)
            for at, push in enumerate(row):
                stand = behind(shelf, stand, [push])
                self.assertEqual(behind(shelf, start, row[:at + 1]), stand)
                self.assertIs(is_stand(shelf, stand), True)

    def test_the_empty_row_and_the_longest(self):
        self.assertEqual(behind(SHELF, (1, 6, 11), []), (1, 6, 11))
        row = [("right", 0, 8)] * 199 + [("left", 3, 12)]
        self.assertEqual(behind(SHELF, (1, 6, 11), row), (0, 3, 7))

    def test_one_block_and_eight(self):
        self.assertEqual(behind((9, (5,)), (2,), [("right", 0, 3)]), (3,))
        self.assertEqual(behind((9, (5,)), (2,), [("left", 1, 6)]), (1,))
        self.assertEqual(behind((7, (7,)), (0,), [("left", 1, 7), ("right", 0, 0)]), (0,))
        left = tuple(50 * at for at in range(8))
        told = behind(helpers.EIGHT, left, [("right", 3, 550)])
        self.assertEqual(told, left[:3] + tuple(place + 400 for place in left[3:]))
        self.assertEqual(behind(helpers.EIGHT, told, [("left", 8, 400)]), left)

    def test_a_row_done_twice_does_no_more_than_once(self):
        for shelf in helpers.TINY_SHELVES:
            for row in helpers.short_rows(shelf):
                for stand in helpers.all_stands(shelf):
                    once = behind(shelf, stand, row)
                    self.assertEqual(behind(shelf, once, row), once, (shelf, row, stand))

    def test_from_the_right_end_all_is_as_from_the_left(self):
        chance = random.Random(2)
        for many in list(range(1, 9)) * 5:
            shelf = helpers.any_shelf(chance, many)
            stand = helpers.any_stand(chance, shelf)
            row = helpers.any_row(chance, shelf, 12)
            back = helpers.mirrored_shelf(shelf)
            told = behind(back, helpers.mirrored_stand(shelf, stand), helpers.mirrored_row(shelf, row))
            self.assertEqual(told, helpers.mirrored_stand(shelf, behind(shelf, stand, row)))

    def test_the_told_stand_is_a_tuple(self):
        for row in [[], [("right", 0, 3)], [("left", 3, 13)]]:
            self.assertIs(type(behind(SHELF, (1, 6, 11), row)), tuple)


if __name__ == "__main__":
    unittest.main()
