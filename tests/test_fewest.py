"""The fewest pushes from a stand to another one, rows of so many, and which rows lead there."""

import random
import unittest
from itertools import groupby

from pushshelf.fewest import fewest, leads, pushes_to
from pushshelf.shelves import behind, is_row
from tests import helpers

SHELF = (20, (3, 4, 5))
SEARCHED = helpers.SHELVES + helpers.TINY_SHELVES + [(11, (2, 3, 1)), (8, (1,) * 4), (9, (2, 1, 1, 1, 1))]


def steps(shelf):
    """Of each stand, all stands that can be had by one push."""
    pushes = helpers.all_pushes(shelf)
    return {stand: {behind(shelf, stand, [push]) for push in pushes} for stand in helpers.all_stands(shelf)}


def numbers_of_pushes(after, start):
    """Of each stand, by how many pushes at least it can be had."""
    numbers = {start: 0}
    reached = [start]
    while reached:
        found = {to for stand in reached for to in after[stand]} - set(numbers)
        numbers.update(dict.fromkeys(found, numbers[reached[0]] + 1))
        reached = sorted(found)
    return numbers


def wants(shelf, stand, wish):
    """Of each band, whether it wants up and whether it wants down."""
    pairs = list(zip(helpers.places(shelf, stand), helpers.places(shelf, wish)))
    return [
        (any(now < place for now in held), any(now > place for now in held))
        for place, held in ((place, [now for now, to in group]) for place, group in groupby(pairs, lambda pair: pair[1]))
    ]


def server_cost(bands, server):
    up, down = bands[server]
    if server == len(bands) - 1 and not down or server == 0 and not up:
        return 1
    return 2


def least_of_all_ways(bands):
    """The least number by the words of point 10, over every parting and every server."""
    if not bands:
        return 0
    numbers = [sum(bands[0]) + least_of_all_ways(bands[1:])]
    for many in range(2, len(bands) + 1):
        for server in range(many):
            cost = many - 1 + server_cost(bands[:many], server)
            numbers.append(cost + least_of_all_ways(bands[many:]))
    return min(numbers)


def near_stand(chance, shelf, stand):
    """A stand that has most blocks of another one where they are, so that few bands want anything."""
    places = helpers.places(shelf, stand)
    for step in range(chance.randint(0, 3)):
        places[chance.randrange(len(places))] = chance.randint(0, helpers.play(shelf))
    return helpers.stand_at(shelf, sorted(places))


class Case(unittest.TestCase):
    def check(self, shelf, stand, wish, number):
        told = (shelf, stand, wish)
        self.assertEqual(fewest(shelf, stand, wish), number, told)
        row = pushes_to(shelf, stand, wish)
        self.assertIs(type(row), list)
        self.assertEqual(len(row), number, told)
        self.assertIs(is_row(shelf, row), True, told)
        self.assertEqual(behind(shelf, stand, row), wish, told)
        self.assertIs(leads(shelf, stand, wish, row), True, told)


class Fewest(Case):
    def check_places(self, now, wished, number):
        shelf = (len(now) * 3 + 9, (3,) * len(now))
        self.check(shelf, helpers.stand_at(shelf, now), helpers.stand_at(shelf, wished), number)

    def test_one_band_alone(self):
        self.check_places([4], [4], 0)
        self.check_places([4], [5], 1)
        self.check_places([4], [3], 1)
        self.check_places([0], [9], 1)
        self.check_places([9], [0], 1)
        self.check_places([1, 5], [4, 4], 2)
        self.check_places([4, 5], [4, 4], 1)
        self.check_places([1, 4], [4, 4], 1)
        self.check_places([0, 3, 4, 9], [3, 3, 3, 3], 2)

    def test_bands_alone(self):
        self.check_places([1, 6], [2, 5], 2)
        self.check_places([1, 5], [2, 5], 1)
        self.check_places([1, 5, 8], [1, 4, 8], 1)
        self.check_places([0, 4, 4, 6, 9], [2, 2, 4, 8, 8], 4)

    def test_a_server_at_the_last(self):
        self.check_places([1, 3, 4, 5], [2, 2, 7, 7], 2)
        self.check_places([1, 3, 7, 7], [2, 2, 7, 7], 2)
        self.check_places([1, 3, 4, 6, 6, 9], [2, 2, 5, 5, 9, 9], 3)

    def test_a_server_at_the_first(self):
        self.check_places([3, 4, 6, 8], [2, 2, 7, 7], 2)
        self.check_places([0, 1, 5, 7, 8, 9], [0, 0, 6, 6, 8, 8], 3)

    def test_a_server_of_two_pushes(self):
        self.check_places([1, 3, 6, 8], [2, 2, 7, 7], 3)
        self.check_places([0, 2, 4, 6, 7, 9], [1, 1, 5, 5, 8, 8], 4)
        self.check_places([0, 2, 3, 5, 6, 8, 8, 9], [1, 1, 4, 4, 7, 7, 9, 9], 4)

    def test_served_bands_between_bands_alone(self):
        self.check_places([0, 1, 3, 4, 6, 9], [0, 2, 2, 7, 7, 9], 2)
        self.check_places([0, 2, 4, 4, 8, 9], [1, 3, 3, 8, 8, 8], 4)
        self.check_places([1, 2, 4, 4, 8, 9], [0, 3, 3, 8, 8, 8], 3)

    def test_the_stand_as_its_own_wish(self):
        chance = random.Random(31)
        for shelf in SEARCHED:
            for stand in helpers.all_stands(shelf):
                self.check(shelf, stand, stand, 0)
        for many in range(1, 9):
            shelf = helpers.any_shelf(chance, many)
            stand = helpers.any_stand(chance, shelf)
            self.check(shelf, stand, stand, 0)
            self.assertEqual(pushes_to(shelf, stand, stand), [])

    def test_no_fewer_pushes_lead_there_on_small_shelves(self):
        for shelf in SEARCHED:
            after = steps(shelf)
            for stand in after:
                numbers = numbers_of_pushes(after, stand)
                self.assertEqual(len(numbers), len(after))
                for wish in after:
                    self.check(shelf, stand, wish, numbers[wish])

    def test_no_fewer_pushes_lead_there_with_more_blocks(self):
        chance = random.Random(32)
        for shelf in [(10, (1,) * 5), (13, (2,) + (1,) * 6), (11, (1,) * 8)]:
            after = steps(shelf)
            for stand in chance.sample(sorted(after), 12):
                numbers = numbers_of_pushes(after, stand)
                for wish in after:
                    self.check(shelf, stand, wish, numbers[wish])

    def test_large_shelves_by_all_ways_to_part_the_bands(self):
        chance = random.Random(33)
        seen = set()
        for step in range(1500):
            shelf = helpers.any_shelf(chance, chance.randint(1, 8))
            wish = helpers.any_stand(chance, shelf)
            if chance.random() < 0.7:
                picked = chance.choices(helpers.places(shelf, wish), k=len(wish))
                wish = helpers.stand_at(shelf, sorted(picked))
            stand = near_stand(chance, shelf, wish) if step % 2 else helpers.any_stand(chance, shelf)
            number = least_of_all_ways(wants(shelf, stand, wish))
            seen.add(number)
            self.check(shelf, stand, wish, number)
        self.assertEqual(seen, set(range(9)))

    def test_the_outermost_stands(self):
        for many in range(1, 9):
            shelf = (50 * many + 400, (50,) * many)
            left, right = [helpers.stand_at(shelf, [place] * many) for place in [0, 400]]
            spread = helpers.stand_at(shelf, [40 * at + 20 for at in range(many)])
            self.check(shelf, left, right, 1)
            self.check(shelf, right, left, 1)
            self.check(shelf, left, spread, many)
            self.check(shelf, spread, left, 1)


class Leads(unittest.TestCase):
    STAND, WISH = (1, 6, 11), (2, 5, 11)
    GOOD = [("right", 0, 2), ("left", 2, 9)]

    def told(self, thing):
        return leads(SHELF, self.STAND, self.WISH, thing)

    def test_good_rows_and_longer_ones(self):
        good = self.GOOD
        for row in [good, good[::-1], good + good, good * 100, [("right", 0, 0)] + good, good + [("left", 3, 20)]]:
            self.assertIs(self.told(row), True, row)
        self.assertIs(self.told([("right", 0, 8), ("left", 3, 16), ("left", 2, 9)]), True)
        self.assertIs(self.told([("right", 0, 8), ("left", 3, 17), ("left", 2, 9)]), False)
        self.assertIs(self.told([("right", 0, 2), ("right", 2, 15), ("left", 3, 16), ("left", 2, 9)]), True)

    def test_rows_that_lead_elsewhere(self):
        for row in [[], self.GOOD[:1], self.GOOD[1:], self.GOOD + [("left", 1, 4)], [("left", 3, 12)]]:
            self.assertIs(self.told(row), False, row)

    def test_the_empty_row(self):
        self.assertIs(leads(SHELF, self.STAND, self.STAND, []), True)
        self.assertIs(leads(SHELF, self.STAND, self.WISH, []), False)

    def test_what_is_no_row(self):
        good = self.GOOD
        for thing in [
            tuple(good), [list(push) for push in good], good * 100 + good[:1], good + [None], good + [("left", 0, 0)],
            [good], good[0], {}, good + [("right", 3, 15)], [("right", False, 2), ("left", 2, 9)],
        ]:
            self.assertIs(self.told(thing), False, thing)

    def test_things_of_all_kinds(self):
        for thing in helpers.ODD_THINGS:
            self.assertIs(self.told(thing), False, thing)
            self.assertIs(leads(SHELF, self.STAND, self.STAND, thing), False, thing)
            self.assertIs(self.told(self.GOOD + [thing]), False, thing)

    def test_every_short_row_of_tiny_shelves(self):
        for shelf in helpers.TINY_SHELVES:
            for stand in helpers.all_stands(shelf):
                for row in helpers.short_rows(shelf)[::5]:
                    end = behind(shelf, stand, row)
                    for wish in helpers.all_stands(shelf)[::3] + [end]:
                        self.assertIs(leads(shelf, stand, wish, row), wish == end, (shelf, stand, wish, row))


if __name__ == "__main__":
    unittest.main()
