"""What holds over the whole program: point 3, and all from the right end as from the left."""

import random
import unittest

from pushshelf import counted, doings, fewest, shelves
from pushshelf.benches import Bench
from tests import helpers
from tests.helpers import mirrored_doing, mirrored_row, mirrored_shelf, mirrored_stand


def shelves_of_all_sizes(chance, rounds):
    for many in list(range(1, 9)) * rounds:
        yield helpers.any_shelf(chance, many)


class FromTheRightEnd(unittest.TestCase):
    def test_stands_rows_and_doings_are_such(self):
        for shelf in helpers.SHELVES:
            back = mirrored_shelf(shelf)
            self.assertIs(shelves.is_shelf(back), True)
            for stand in helpers.all_stands(shelf):
                self.assertIs(shelves.is_stand(back, mirrored_stand(shelf, stand)), True)
            for push in helpers.all_pushes(shelf):
                self.assertIs(shelves.is_row(back, mirrored_row(shelf, [push])), True)
        for shelf in helpers.TINY_SHELVES:
            for doing in helpers.all_doings(shelf):
                self.assertIs(doings.is_doing(mirrored_shelf(shelf), mirrored_doing(shelf, doing)), True)

    def test_doings(self):
        chance = random.Random(51)
        for shelf in shelves_of_all_sizes(chance, 5):
            back = mirrored_shelf(shelf)
            doing, second = helpers.any_doing(chance, shelf), helpers.any_doing(chance, shelf)
            stand = helpers.any_stand(chance, shelf)
            self.assertEqual(
                doings.led(back, mirrored_doing(shelf, doing), mirrored_stand(shelf, stand)),
                mirrored_stand(shelf, doings.led(shelf, doing, stand)),
            )
            self.assertEqual(
                doings.joined(back, mirrored_doing(shelf, doing), mirrored_doing(shelf, second)),
                mirrored_doing(shelf, doings.joined(shelf, doing, second)),
            )
            row = mirrored_row(shelf, doings.row_for(shelf, doing))
            self.assertEqual(doings.doing_of(back, row), mirrored_doing(shelf, doing))

    def test_alike_and_parted(self):
        chance = random.Random(52)
        for shelf in shelves_of_all_sizes(chance, 5):
            back = mirrored_shelf(shelf)
            row = helpers.any_row(chance, shelf, 3)
            for other in [row[::-1], row + row, row[1:], doings.row_for(shelf, doings.doing_of(shelf, row))]:
                there, behind = mirrored_row(shelf, row), mirrored_row(shelf, other)
                self.assertIs(doings.alike(back, there, behind), doings.alike(shelf, row, other))
                stand = doings.parted(back, there, behind)
                self.assertIs(stand is None, doings.alike(shelf, row, other))
                if stand is not None:
                    stand = mirrored_stand(back, stand)
                    self.assertNotEqual(shelves.behind(shelf, stand, row), shelves.behind(shelf, stand, other))

    def test_counted(self):
        chance = random.Random(53)
        for shelf in shelves_of_all_sizes(chance, 5):
            back = mirrored_shelf(shelf)
            self.assertEqual(counted.stands(back), counted.stands(shelf))
            self.assertEqual(counted.doings(back), counted.doings(shelf))
            doing = helpers.any_doing(chance, shelf)
            start = helpers.any_stand(chance, shelf)
            for stand in [start, doings.led(shelf, doing, start), *doing]:
                self.assertEqual(
                    counted.leading(back, mirrored_doing(shelf, doing), mirrored_stand(shelf, stand)),
                    counted.leading(shelf, doing, stand),
                )

    def test_fewest(self):
        chance = random.Random(54)
        for shelf in list(shelves_of_all_sizes(chance, 20)) + helpers.SHELVES * 20:
            back = mirrored_shelf(shelf)
            stand, wish = helpers.any_stand(chance, shelf), helpers.any_stand(chance, shelf)
            there, wished = mirrored_stand(shelf, stand), mirrored_stand(shelf, wish)
            self.assertEqual(fewest.fewest(back, there, wished), fewest.fewest(shelf, stand, wish))
            row = fewest.pushes_to(shelf, stand, wish)
            self.assertIs(fewest.leads(back, there, wished, mirrored_row(shelf, row)), True)
            self.assertIs(fewest.leads(back, there, wished, mirrored_row(shelf, row)[1:]), stand == wish)

    def test_benches(self):
        chance = random.Random(55)
        for shelf in shelves_of_all_sizes(chance, 2):
            stand, wish = helpers.any_stand(chance, shelf), helpers.any_stand(chance, shelf)
            bench = Bench(shelf, stand)
            back = Bench(mirrored_shelf(shelf), mirrored_stand(shelf, stand))
            bench.set_wish(wish)
            back.set_wish(mirrored_stand(shelf, wish))
            for push in helpers.any_row(chance, shelf, 20):
                bench.push(push)
                back.push(mirrored_row(shelf, [push])[0])
                self.assertEqual(back.stand(), mirrored_stand(shelf, bench.stand()))
                self.assertEqual(back.doing(), mirrored_doing(shelf, bench.doing()))
                self.assertEqual((back.pushes(), back.fewest()), (bench.pushes(), bench.fewest()))


class Whole(unittest.TestCase):
    def test_as_many_doings_as_rows_can_do(self):
        for shelf in [(4, (2,)), (4, (1, 2)), (5, (1, 2)), (5, (2, 1, 1))]:
            found = {doings.doing_of(shelf, [])}
            fresh = list(found)
            while fresh:
                doing = fresh.pop()
                for push in helpers.all_pushes(shelf):
                    longer = doings.joined(shelf, doing, doings.doing_of(shelf, [push]))
                    if longer not in found:
                        found.add(longer)
                        fresh.append(longer)
            self.assertEqual(len(found), counted.doings(shelf), shelf)
            self.assertEqual(found, set(helpers.all_doings(shelf)))

    def test_a_row_to_a_wish_is_a_row_for_a_doing_that_leads_there(self):
        chance = random.Random(56)
        for shelf in shelves_of_all_sizes(chance, 5):
            stand, wish = helpers.any_stand(chance, shelf), helpers.any_stand(chance, shelf)
            doing = doings.doing_of(shelf, fewest.pushes_to(shelf, stand, wish))
            self.assertEqual(doings.led(shelf, doing, stand), wish)
            self.assertGreaterEqual(counted.leading(shelf, doing, wish), 1)

    def test_a_row_done_twice_on_a_bench(self):
        chance = random.Random(57)
        for shelf in shelves_of_all_sizes(chance, 2):
            bench = Bench(shelf, helpers.any_stand(chance, shelf))
            row = helpers.any_row(chance, shelf, 150)
            seen = []
            for step in range(2):
                for push in row:
                    bench.push(push)
                seen.append((bench.stand(), bench.doing()))
            self.assertEqual(seen[0], seen[1])
            self.assertEqual(bench.pushes(), 300)


if __name__ == "__main__":
    unittest.main()
