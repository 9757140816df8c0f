"""A bench by pushes and wishes, deed by deed."""

import copy
import random
import unittest

from pushshelf.benches import Bench
from pushshelf.doings import doing_of, joined
from pushshelf.errors import NoPush, NoShelf, NoStand, NoWish
from pushshelf.fewest import fewest, pushes_to
from pushshelf.shelves import behind
from tests import helpers

SHELF = (20, (3, 4, 5))
STAND = (1, 6, 11)
WISH = (2, 5, 11)
LEFT, RIGHT = (0, 3, 7), (8, 11, 15)
NO_PUSHES = [
    ["right", 1, 5], ("right", 1), ("right", 1, 5, 0), ("right", 3, 15), ("left", 0, 0), ("right", -1, 0), ("left", 4, 20),
    ("right", 1, 2), ("right", 1, 12), ("left", 3, 11), ("left", 3, 21), ("up", 1, 5), ("right", True, 5),
    ("right", 1, "5"), ("right", 1, None), [("right", 1, 5)], (("right", 1, 5),), [], STAND,
]
NO_STANDS = [[1, 6, 11], (1, 6), (1, 6, 11, 16), (-1, 6, 11), (1, 3, 11), (1, 6, 16), (True, 6, 11), (LEFT, RIGHT), []]


def told(bench):
    """All that a bench tells, its wish's number None where there is none."""
    try:
        number = bench.fewest()
    except NoWish:
        number = None
    return (bench.stand(), bench.doing(), bench.pushes(), number, len(bench))


def made(*pushes, shelf=SHELF, stand=STAND, wish=None):
    bench = Bench(shelf, stand)
    for push in pushes:
        bench.push(push)
    if wish is not None:
        bench.set_wish(wish)
    return bench


class Deeds(unittest.TestCase):
    def test_a_new_bench(self):
        self.assertEqual(told(Bench(SHELF, STAND)), (STAND, (LEFT, RIGHT), 0, None, 3))
        self.assertEqual(told(Bench((7, (7,)), (0,))), ((0,), ((0,), (0,)), 0, None, 1))
        self.assertEqual(len(Bench(helpers.EIGHT, tuple(range(0, 400, 50)))), 8)

    def test_told_by_hand(self):
        bench = Bench(SHELF, STAND)
        self.assertIsNone(bench.set_wish(WISH))
        self.assertEqual(told(bench), (STAND, (LEFT, RIGHT), 0, 2, 3))
        self.assertIsNone(bench.push(("right", 0, 2)))
        self.assertEqual(told(bench), ((2, 6, 11), ((2, 5, 9), RIGHT), 1, 1, 3))
        bench.push(("left", 2, 9))
        self.assertEqual(told(bench), (WISH, ((2, 5, 9), (2, 5, 15)), 2, 0, 3))
        bench.push(("left", 2, 9))
        self.assertEqual(told(bench), (WISH, ((2, 5, 9), (2, 5, 15)), 3, 0, 3))
        bench.set_wish(RIGHT)
        self.assertEqual(told(bench), (WISH, ((2, 5, 9), (2, 5, 15)), 3, 1, 3))
        bench.set_wish(STAND)
        self.assertEqual(bench.fewest(), 2)

    def check_deeds(self, chance, shelf, deeds):
        stand = start = helpers.any_stand(chance, shelf)
        bench = Bench(shelf, start)
        doing, wish = doing_of(shelf, []), None
        for many in range(1, deeds + 1):
            push = helpers.any_row(chance, shelf, 1)[0]
            bench.push(push)
            stand = behind(shelf, stand, [push])
            doing = joined(shelf, doing, doing_of(shelf, [push]))
            if chance.random() < 0.2:
                wish = helpers.any_stand(chance, shelf)
                bench.set_wish(wish)
            number = None if wish is None else fewest(shelf, stand, wish)
            self.assertEqual(told(bench), (stand, doing, many, number, len(shelf[1])))

    def test_deed_by_deed(self):
        chance = random.Random(41)
        for shelf in helpers.SHELVES:
            self.check_deeds(chance, shelf, 40)
        for many in range(1, 9):
            self.check_deeds(chance, helpers.any_shelf(chance, many), 40)

    def test_more_than_200_pushes(self):
        chance = random.Random(42)
        self.check_deeds(chance, helpers.EIGHT, 450)
        bench = Bench(SHELF, STAND)
        for many in range(1, 1001):
            bench.push(("right", 0, 2) if many < 900 else ("left", 3, 20))
        self.assertEqual(told(bench), ((2, 6, 11), ((2, 5, 9), RIGHT), 1000, None, 3))

    def test_the_doing_of_all_pushes_is_that_of_the_row(self):
        chance = random.Random(43)
        for many in range(1, 9):
            shelf = helpers.any_shelf(chance, many)
            row = helpers.any_row(chance, shelf, 200)
            bench = made(*row, shelf=shelf, stand=helpers.any_stand(chance, shelf))
            self.assertEqual(bench.doing(), doing_of(shelf, row))

    def test_the_told_row_leads_a_bench_to_its_wish(self):
        chance = random.Random(44)
        for many in list(range(1, 9)) * 5:
            shelf = helpers.any_shelf(chance, many)
            bench = Bench(shelf, helpers.any_stand(chance, shelf))
            wish = helpers.any_stand(chance, shelf)
            bench.set_wish(wish)
            row = pushes_to(shelf, bench.stand(), wish)
            for left, push in zip(range(len(row), 0, -1), row):
                self.assertEqual(bench.fewest(), left)
                bench.push(push)
            self.assertEqual((bench.fewest(), bench.stand()), (0, wish))

    def test_benches_do_not_share_anything(self):
        one, two = Bench(SHELF, STAND), Bench(SHELF, STAND)
        one.push(("right", 0, 8))
        one.set_wish(WISH)
        self.assertEqual(told(two), (STAND, (LEFT, RIGHT), 0, None, 3))

    def test_asking_changes_nothing(self):
        bench = made(("right", 1, 9), wish=WISH)
        self.assertEqual(told(bench), told(bench))
        self.assertEqual(bench, made(("right", 1, 9), wish=WISH))


class Refused(unittest.TestCase):
    def refused(self, refusal, call, *arguments):
        before = copy.deepcopy(arguments)
        with self.assertRaises(refusal) as caught:
            call(*arguments)
        self.assertIs(type(caught.exception), refusal)
        self.assertEqual(arguments, before)

    def test_a_bench_of_no_shelf_or_no_stand(self):
        for thing in helpers.ODD_THINGS + [[], [20, (3, 4, 5)], (20, [3, 4, 5]), (11, (3, 4, 5)), (413, (3, 4, 5))]:
            self.refused(NoShelf, Bench, thing, STAND)
            self.refused(NoShelf, Bench, thing, thing)
        for thing in helpers.ODD_THINGS + NO_STANDS:
            self.refused(NoStand, Bench, SHELF, thing)

    def test_no_push(self):
        for wish in [None, WISH]:
            for thing in helpers.ODD_THINGS + NO_PUSHES:
                bench = made(("right", 0, 2), wish=wish)
                self.refused(NoPush, bench.push, thing)
                self.assertEqual(told(bench), told(made(("right", 0, 2), wish=wish)))
                self.assertEqual(bench, made(("right", 0, 2), wish=wish))

    def test_no_wish_that_is_no_stand(self):
        for wish in [None, WISH]:
            for thing in helpers.ODD_THINGS + NO_STANDS:
                bench = made(("right", 0, 2), wish=wish)
                self.refused(NoStand, bench.set_wish, thing)
                self.assertEqual(told(bench), told(made(("right", 0, 2), wish=wish)))
                self.assertEqual(bench, made(("right", 0, 2), wish=wish))

    def test_no_wish_was_set(self):
        bench = Bench(SHELF, STAND)
        self.refused(NoWish, bench.fewest)
        bench.push(("right", 0, 8))
        self.refused(NoWish, bench.fewest)
        self.refused(NoStand, bench.set_wish, None)
        self.refused(NoWish, bench.fewest)
        bench.set_wish(RIGHT)
        self.assertEqual(bench.fewest(), 0)

    def test_a_bench_goes_on_behind_a_refusal(self):
        bench = Bench(SHELF, STAND)
        for push in [("right", 0, 2), ("left", 2, 9)]:
            self.refused(NoPush, bench.push, None)
            bench.push(push)
            self.refused(NoStand, bench.set_wish, push)
        self.assertEqual(told(bench), (WISH, ((2, 5, 9), (2, 5, 15)), 2, None, 3))


class Equal(unittest.TestCase):
    def check(self, one, two, same):
        self.assertIs(one == two, same)
        self.assertIs(two == one, same)
        self.assertIs(one != two, not same)

    def test_equal_benches(self):
        push = ("right", 0, 2)
        self.check(Bench(SHELF, STAND), Bench(SHELF, STAND), True)
        self.check(made(push), made(push), True)
        self.check(made(push, wish=WISH), made(push, wish=WISH), True)
        bench = made(push, wish=WISH)
        self.check(bench, bench, True)
        self.check(made(push, ("left", 2, 10)), made(("left", 2, 10), push), True)

    def test_wishes_set_at_other_times(self):
        one, two = Bench(SHELF, STAND), Bench(SHELF, STAND)
        one.set_wish(RIGHT)
        one.push(("right", 1, 5))
        two.push(("right", 1, 5))
        self.check(one, two, False)
        two.set_wish(LEFT)
        self.check(one, two, False)
        two.set_wish(RIGHT)
        self.check(one, two, True)

    def test_a_deed_behind(self):
        chance = random.Random(45)
        one, two = Bench(SHELF, STAND), Bench(SHELF, STAND)
        for push in helpers.any_row(chance, SHELF, 30):
            one.push(push)
            self.check(one, two, False)
            two.push(push)
            self.check(one, two, True)
        one.set_wish(WISH)
        self.check(one, two, False)

    def test_each_part_alone(self):
        nothing = ("right", 0, 0)
        other = (20, (3, 5, 4))
        self.check(made(), made(shelf=other), False)
        self.check(made(), made(shelf=(21, (3, 4, 5))), False)
        # The same stands, doings and numbers of pushes on another shelf.
        self.check(made(), made(shelf=(21, (3, 4, 6))), False)
        self.check(made(), made(stand=(1, 6, 12)), False)
        self.check(made(nothing), made(), False)
        self.check(made(("right", 0, 1)), made(nothing), False)
        self.check(made(("left", 3, 19)), made(nothing), False)
        self.check(made(wish=STAND), made(), False)
        self.check(made(wish=STAND), made(wish=WISH), False)

    def test_nothing_else_equals_a_bench(self):
        bench = made(("right", 0, 2), wish=WISH)
        for thing in helpers.ODD_THINGS + [
            [], {}, SHELF, STAND, bench.stand(), bench.doing(), bench.pushes(), 3, told(bench), [bench], (bench,), object(),
            (SHELF, STAND), Bench,
        ]:
            self.check(bench, thing, False)


class Copies(unittest.TestCase):
    def test_nothing_handed_in_is_kept(self):
        shelf = (20, tuple([3, 4, 5]))
        stand, wish = tuple([1, 6, 11]), tuple([2, 5, 11])
        push = tuple(["right", 0, 2])
        handed = [shelf, shelf[1], stand, wish, push]
        bench = Bench(shelf, stand)
        bench.set_wish(wish)
        bench.push(push)
        bench.push(("left", 2, 9))
        kept = list(vars(bench).values())
        kept += [part for thing in kept if isinstance(thing, tuple) for part in thing]
        for thing in handed:
            self.assertFalse(any(part is thing for part in kept), thing)
        self.assertIsNot(Bench(shelf, stand).stand(), stand)

    def test_the_told_values_stay_behind_further_pushes(self):
        bench = Bench(SHELF, STAND)
        stand, doing = bench.stand(), bench.doing()
        bench.push(("right", 0, 8))
        self.assertEqual((stand, doing), (STAND, (LEFT, RIGHT)))


class Kinds(unittest.TestCase):
    def test_kinds_of_what_is_told(self):
        for bench in [made(wish=WISH), made(("right", 0, 2), wish=WISH)]:
            self.assertEqual([type(part) for part in told(bench)], [tuple, tuple, int, int, int])
            self.assertEqual([type(part) for part in bench.doing()], [tuple, tuple])

    def test_each_method_is_defined_in_the_class_itself(self):
        for name in ["__init__", "push", "set_wish", "stand", "doing", "pushes", "fewest", "__len__", "__eq__"]:
            self.assertIn(name, vars(Bench))


if __name__ == "__main__":
    unittest.main()
