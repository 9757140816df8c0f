"""What a row does, rows for doings, and which rows are alike."""

import random
import unittest

from pushshelf.doings import alike, doing_of, is_doing, joined, led, parted, row_for
from pushshelf.shelves import behind, is_row, is_stand
from tests import helpers

SHELF = (20, (3, 4, 5))
LEFT, RIGHT = (0, 3, 7), (8, 11, 15)


class DoingOf(unittest.TestCase):
    def test_told_by_hand(self):
        for row, doing in [
            ([], (LEFT, RIGHT)),
            ([("right", 0, 0), ("left", 3, 20)], (LEFT, RIGHT)),
            ([("right", 0, 2)], ((2, 5, 9), RIGHT)),
            ([("right", 1, 5)], ((0, 5, 9), RIGHT)),
            ([("left", 2, 10)], (LEFT, (3, 6, 15))),
            ([("right", 1, 5), ("left", 2, 10)], ((0, 5, 9), (3, 6, 15))),
            ([("right", 0, 8), ("left", 2, 8)], ((1, 4, 15), (1, 4, 15))),
            ([("left", 3, 12), ("right", 2, 12)], ((0, 3, 12), (0, 3, 12))),
        ]:
            self.assertEqual(doing_of(SHELF, row), doing, row)

    def test_it_leads_every_stand_where_the_row_does(self):
        for shelf in helpers.TINY_SHELVES:
            for row in helpers.short_rows(shelf):
                doing = doing_of(shelf, row)
                self.assertIs(is_doing(shelf, doing), True)
                for stand in helpers.all_stands(shelf):
                    self.assertEqual(led(shelf, doing, stand), behind(shelf, stand, row), (shelf, row, stand))

    def test_longer_rows_on_small_shelves(self):
        chance = random.Random(3)
        for shelf in helpers.SHELVES:
            for many in [3, 5, 9, 200]:
                row = helpers.any_row(chance, shelf, many)
                doing = doing_of(shelf, row)
                for stand in helpers.all_stands(shelf):
                    self.assertEqual(led(shelf, doing, stand), behind(shelf, stand, row), (shelf, row, stand))

    def test_large_shelves(self):
        chance = random.Random(4)
        for many in list(range(1, 9)) * 5:
            shelf = helpers.any_shelf(chance, many)
            row = helpers.any_row(chance, shelf, chance.choice([1, 4, 9, 200]))
            doing = doing_of(shelf, row)
            for step in range(10):
                stand = helpers.any_stand(chance, shelf)
                self.assertEqual(led(shelf, doing, stand), behind(shelf, stand, row))

    def test_a_row_done_twice_has_the_same_doing(self):
        chance = random.Random(5)
        for many in range(1, 9):
            shelf = helpers.any_shelf(chance, many)
            for length in [1, 2, 5, 100]:
                row = helpers.any_row(chance, shelf, length)
                self.assertEqual(doing_of(shelf, row + row), doing_of(shelf, row))

    def test_from_the_right_end_all_is_as_from_the_left(self):
        chance = random.Random(6)
        for many in list(range(1, 9)) * 5:
            shelf = helpers.any_shelf(chance, many)
            row = helpers.any_row(chance, shelf, 9)
            back = doing_of(helpers.mirrored_shelf(shelf), helpers.mirrored_row(shelf, row))
            self.assertEqual(back, helpers.mirrored_doing(shelf, doing_of(shelf, row)))


class IsDoing(unittest.TestCase):
    def test_doings_narrow_and_wide(self):
        for doing in [(LEFT, RIGHT), (LEFT, LEFT), (RIGHT, RIGHT), ((0, 4, 9), (0, 5, 9)), ((1, 4, 9), (8, 11, 15))]:
            self.assertIs(is_doing(SHELF, doing), True, doing)

    def test_all_pairs_of_stands(self):
        for shelf in helpers.TINY_SHELVES:
            doings = set(helpers.all_doings(shelf))
            for least in helpers.all_stands(shelf):
                for greatest in helpers.all_stands(shelf):
                    told = is_doing(shelf, (least, greatest))
                    self.assertIs(told, (least, greatest) in doings, (shelf, least, greatest))

    def test_each_block_counts(self):
        for at in range(3):
            least, greatest = [2, 6, 11], [2, 6, 11]
            self.assertIs(is_doing(SHELF, (tuple(least), tuple(greatest))), True)
            least[at] += 1
            self.assertIs(is_doing(SHELF, (tuple(least), tuple(greatest))), False, at)
            self.assertIs(is_doing(SHELF, (tuple(greatest), tuple(least))), True, at)

    def test_wrong_forms_of_a_doing(self):
        for thing in [
            [LEFT, RIGHT], (list(LEFT), RIGHT), (LEFT, list(RIGHT)), (LEFT,), (LEFT, RIGHT, RIGHT), LEFT,
            (RIGHT, LEFT), (LEFT, None), (None, RIGHT), (LEFT, (8, 11, 16)), ((-1, 3, 7), RIGHT), (LEFT, (8, 11)),
            ((False, 3, 7), RIGHT), (LEFT, ("8", 11, 15)), ((0, 2, 7), RIGHT), "LR", {},
        ]:
            self.assertIs(is_doing(SHELF, thing), False, thing)

    def test_things_of_all_kinds_are_no_doings(self):
        for shelf in helpers.SHELVES + [SHELF, helpers.EIGHT]:
            stand = helpers.all_stands(shelf)[0] if shelf != helpers.EIGHT else tuple(range(0, 400, 50))
            for thing in helpers.ODD_THINGS:
                for doing in [thing, (thing, stand), (stand, thing), (thing, thing)]:
                    self.assertIs(is_doing(shelf, doing), False, (shelf, doing))


class Led(unittest.TestCase):
    def test_below_within_and_above(self):
        doing = ((2, 6, 11), (4, 8, 13))
        for stand, told in [
            ((1, 4, 8), (2, 6, 11)), ((2, 6, 11), (2, 6, 11)), ((3, 7, 12), (3, 7, 12)), ((4, 8, 13), (4, 8, 13)),
            ((5, 9, 14), (4, 8, 13)), ((0, 7, 15), (2, 7, 13)),
        ]:
            self.assertEqual(led(SHELF, doing, stand), told)

    def test_each_block_by_itself(self):
        for shelf in helpers.TINY_SHELVES:
            for doing in helpers.all_doings(shelf):
                for stand in helpers.all_stands(shelf):
                    told = led(shelf, doing, stand)
                    self.assertIs(is_stand(shelf, told), True)
                    for low, left, high, end in zip(doing[0], stand, doing[1], told):
                        self.assertEqual(end, low if left < low else high if left > high else left)


class Joined(unittest.TestCase):
    def test_told_by_hand(self):
        first, second = ((0, 3, 7), (2, 5, 9)), ((1, 6, 10), (8, 11, 15))
        self.assertEqual(joined(SHELF, first, second), ((1, 6, 10), (2, 6, 10)))
        self.assertEqual(joined(SHELF, second, first), ((1, 5, 9), (2, 5, 9)))

    def test_it_leads_as_the_one_behind_the_other(self):
        for shelf in helpers.TINY_SHELVES[:2] + [(5, (2, 1, 1))]:
            for first in helpers.all_doings(shelf):
                for second in helpers.all_doings(shelf):
                    both = joined(shelf, first, second)
                    self.assertIs(is_doing(shelf, both), True)
                    for stand in helpers.all_stands(shelf):
                        told = led(shelf, second, led(shelf, first, stand))
                        self.assertEqual(led(shelf, both, stand), told, (shelf, first, second, stand))

    def test_rows_one_behind_the_other(self):
        chance = random.Random(7)
        for many in list(range(1, 9)) * 5:
            shelf = helpers.any_shelf(chance, many)
            one, two = helpers.any_row(chance, shelf, 6), helpers.any_row(chance, shelf, 6)
            told = joined(shelf, doing_of(shelf, one), doing_of(shelf, two))
            self.assertEqual(told, doing_of(shelf, one + two))


class RowFor(unittest.TestCase):
    def check(self, shelf, doing):
        row = row_for(shelf, doing)
        self.assertIs(type(row), list)
        self.assertIs(is_row(shelf, row), True, (shelf, doing, row))
        self.assertLessEqual(len(row), 2 * len(shelf[1]))
        self.assertEqual(doing_of(shelf, row), doing, (shelf, doing, row))

    def test_every_doing_of_small_shelves(self):
        for shelf in helpers.TINY_SHELVES + helpers.SHELVES:
            for doing in helpers.all_doings(shelf):
                self.check(shelf, doing)

    def test_large_shelves(self):
        chance = random.Random(8)
        for many in list(range(1, 9)) * 10:
            shelf = helpers.any_shelf(chance, many)
            self.check(shelf, helpers.any_doing(chance, shelf))
            stand = helpers.any_stand(chance, shelf)
            self.check(shelf, (stand, stand))
            self.check(shelf, doing_of(shelf, []))


class Alike(unittest.TestCase):
    def check(self, shelf, row, other, stands):
        same = all(behind(shelf, stand, row) == behind(shelf, stand, other) for stand in stands)
        self.assertIs(alike(shelf, row, other), same, (shelf, row, other))
        stand = parted(shelf, row, other)
        if same:
            self.assertIsNone(stand)
        else:
            self.assertIs(is_stand(shelf, stand), True)
            self.assertNotEqual(behind(shelf, stand, row), behind(shelf, stand, other))

    def test_told_by_hand(self):
        right, left = ("right", 1, 5), ("left", 2, 10)
        self.assertIs(alike(SHELF, [right, left], [left, right]), True)
        self.assertIsNone(parted(SHELF, [right, left], [left, right]))
        self.assertIs(alike(SHELF, [], [("right", 2, 7), ("left", 1, 11)]), True)
        self.assertIs(alike(SHELF, [right], [left]), False)
        self.assertIs(alike(SHELF, [], [right]), False)
        self.assertIs(alike(SHELF, [left], []), False)

    def test_all_short_rows_of_tiny_shelves(self):
        for shelf in [(4, (2,)), (5, (1, 2)), (5, (2, 1, 1))]:
            stands = helpers.all_stands(shelf)
            rows = helpers.short_rows(shelf)
            chosen = rows if len(rows) < 50 else rows[::7]
            for row in chosen:
                for other in rows[:20] + chosen:
                    self.check(shelf, row, other, stands)

    def test_rows_that_part_on_one_side_only(self):
        stands = helpers.all_stands((9, (3, 1, 2)))
        for push in helpers.all_pushes((9, (3, 1, 2))):
            self.check((9, (3, 1, 2)), [], [push], stands)
            self.check((9, (3, 1, 2)), [push], [], stands)

    def test_a_row_and_the_told_row_for_its_doing(self):
        chance = random.Random(9)
        for many in list(range(1, 9)) * 5:
            shelf = helpers.any_shelf(chance, many)
            row = helpers.any_row(chance, shelf, 200)
            told = row_for(shelf, doing_of(shelf, row))
            self.assertIs(alike(shelf, row, told), True)
            self.assertIsNone(parted(shelf, row, told))


class Kinds(unittest.TestCase):
    def test_doings_and_stands_are_tuples(self):
        doing = doing_of(SHELF, [("right", 1, 5)])
        for told in [doing, joined(SHELF, doing, doing)]:
            self.assertIs(type(told), tuple)
            self.assertEqual([type(part) for part in told], [tuple, tuple])
        self.assertIs(type(led(SHELF, doing, LEFT)), tuple)
        self.assertIs(type(parted(SHELF, [], [("right", 0, 1)])), tuple)
        for push in row_for(SHELF, doing):
            self.assertIs(type(push), tuple)


if __name__ == "__main__":
    unittest.main()
