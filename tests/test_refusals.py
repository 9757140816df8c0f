"""What is refused, in which order, and that nothing handed in is changed."""

import copy
import unittest

from pushshelf import benches, counted, doings, fewest, shelves
from pushshelf.errors import NoDoing, NoRow, NoShelf, NoStand
from tests import helpers

SHELF = (20, (3, 4, 5))
STAND = (1, 6, 11)
PUSH = ("right", 1, 5)
DOING = ((0, 5, 9), (3, 6, 15))

# Of each kind of argument: a right one, its refusal, and near misses beside things of all kinds.
KINDS = {
    "shelf": (SHELF, NoShelf, [
        [20, (3, 4, 5)], (20, [3, 4, 5]), (11, (3, 4, 5)), (413, (3, 4, 5)), (20, ()), (20, (1,) * 9),
        (20, (0, 4, 5)), (80, (51, 4, 5)), (20, (True, 4, 5)), (True, (1,)),
    ]),
    "stand": (STAND, NoStand, [
        [1, 6, 11], (1, 6), (1, 6, 11, 16), (-1, 6, 11), (1, 3, 11), (1, 6, 16), (True, 6, 11), PUSH, DOING,
    ]),
    "row": ([PUSH], NoRow, [
        (PUSH,), (), PUSH, [list(PUSH)], [PUSH] * 201, [("right", 3, 15)], [("left", 0, 0)], [("right", 1, 2)],
        [("right", 1, 12)], [("right", True, 5)], [("up", 1, 5)], [PUSH, None],
    ]),
    "doing": (DOING, NoDoing, [
        list(DOING), DOING[::-1], (DOING[0],), DOING + DOING, (list(DOING[0]), DOING[1]), (DOING[0], list(DOING[1])),
        (DOING[0], (3, 6, 16)), ((False, 5, 9), DOING[1]), STAND, [PUSH],
    ]),
}

CALLS = [
    (shelves.is_stand, ["shelf", "thing"]),
    (shelves.is_row, ["shelf", "thing"]),
    (shelves.behind, ["shelf", "stand", "row"]),
    (doings.doing_of, ["shelf", "row"]),
    (doings.is_doing, ["shelf", "thing"]),
    (doings.led, ["shelf", "doing", "stand"]),
    (doings.joined, ["shelf", "doing", "doing"]),
    (doings.row_for, ["shelf", "doing"]),
    (doings.alike, ["shelf", "row", "row"]),
    (doings.parted, ["shelf", "row", "row"]),
    (counted.stands, ["shelf"]),
    (counted.doings, ["shelf"]),
    (counted.leading, ["shelf", "doing", "stand"]),
    (fewest.fewest, ["shelf", "stand", "stand"]),
    (fewest.pushes_to, ["shelf", "stand", "stand"]),
    (fewest.leads, ["shelf", "stand", "stand", "thing"]),
    (benches.Bench, ["shelf", "stand"]),
]


def right_arguments(kinds):
    return [None if kind == "thing" else copy.deepcopy(KINDS[kind][0]) for kind in kinds]


def wrong_things(kind):
    return KINDS[kind][2] + helpers.ODD_THINGS + ([[]] if kind != "row" else [])


class Refusals(unittest.TestCase):
    def refused(self, call, arguments, refusal):
        before = copy.deepcopy(arguments)
        with self.assertRaises(refusal) as caught:
            call(*arguments)
        self.assertIs(type(caught.exception), refusal)
        self.assertEqual(arguments, before)

    def test_right_arguments_are_not_refused(self):
        for call, kinds in CALLS:
            call(*right_arguments(kinds))

    def test_each_argument_alone(self):
        for call, kinds in CALLS:
            for at, kind in enumerate(kinds):
                if kind == "thing":
                    continue
                for thing in wrong_things(kind):
                    arguments = right_arguments(kinds)
                    arguments[at] = thing
                    with self.subTest(call=call.__name__, at=at, thing=thing):
                        self.refused(call, arguments, KINDS[kind][1])

    def test_the_first_wrong_argument_is_refused(self):
        for call, kinds in CALLS:
            for first, kind in enumerate(kinds):
                if kind == "thing":
                    continue
                for thing in [None, 0, "", (), nested_list(), (1, 2)]:
                    arguments = right_arguments(kinds)
                    arguments[first:] = [thing] * (len(kinds) - first)
                    with self.subTest(call=call.__name__, first=first, thing=thing):
                        self.refused(call, arguments, KINDS[kind][1])

    def test_a_stand_a_row_a_doing_of_another_shelf(self):
        other = (6, (5,))
        for call, arguments, refusal in [
            (shelves.behind, [other, STAND, [PUSH]], NoStand),
            (shelves.behind, [other, (0,), [PUSH]], NoRow),
            (doings.led, [other, DOING, STAND], NoDoing),
            (doings.led, [other, ((0,), (1,)), STAND], NoStand),
            (doings.joined, [other, ((0,), (1,)), DOING], NoDoing),
            (doings.alike, [other, [], [PUSH]], NoRow),
            (counted.leading, [other, DOING, STAND], NoDoing),
            (counted.leading, [other, ((0,), (1,)), STAND], NoStand),
            (fewest.fewest, [other, STAND, (0,)], NoStand),
            (fewest.pushes_to, [other, (0,), STAND], NoStand),
            (fewest.leads, [other, (0,), STAND, [PUSH]], NoStand),
            (benches.Bench, [other, STAND], NoStand),
        ]:
            self.refused(call, arguments, refusal)


def nested_list():
    return helpers.nested(list, 10)


class NothingIsChanged(unittest.TestCase):
    def test_what_is_handed_in_stays_and_the_answer_too(self):
        for call, kinds in CALLS + [(shelves.is_shelf, ["shelf"])]:
            arguments = right_arguments(kinds)
            before = copy.deepcopy(arguments)
            told = call(*arguments)
            self.assertEqual(arguments, before)
            self.assertEqual(call(*arguments), told)

    def test_things_asked_about_stay(self):
        things = [nested_list(), [PUSH], [[1], (2, [3])], ([1, 6, 11], [1, 6, 11])]
        before = copy.deepcopy(things)
        for thing in things:
            shelves.is_shelf(thing)
            for call in [shelves.is_stand, shelves.is_row, doings.is_doing]:
                call(SHELF, thing)
            fewest.leads(SHELF, STAND, STAND, thing)
        self.assertEqual(things, before)

    def test_every_told_row_is_the_askers_own(self):
        for call, arguments in [
            (doings.row_for, [SHELF, DOING]),
            (fewest.pushes_to, [SHELF, STAND, (2, 5, 11)]),
            (fewest.pushes_to, [SHELF, STAND, STAND]),
        ]:
            first = call(*arguments)
            kept = list(first)
            first.append(PUSH)
            second = call(*arguments)
            self.assertEqual(second, kept)
            self.assertIsNot(second, call(*arguments))

    def test_a_row_changed_by_its_owner_changes_no_answer_told(self):
        row = [PUSH]
        doing = doings.doing_of(SHELF, row)
        stand = shelves.behind(SHELF, STAND, row)
        row.append(("left", 3, 12))
        self.assertEqual(doing, doings.doing_of(SHELF, [PUSH]))
        self.assertEqual(stand, shelves.behind(SHELF, STAND, [PUSH]))
        self.assertNotEqual(doings.doing_of(SHELF, row), doing)


class Interface(unittest.TestCase):
    def test_each_function_is_defined_in_its_file(self):
        for module, names in [
            (shelves, ["is_shelf", "is_stand", "is_row", "behind"]),
            (doings, ["doing_of", "is_doing", "led", "joined", "row_for", "alike", "parted"]),
            (counted, ["stands", "doings", "leading"]),
            (fewest, ["fewest", "pushes_to", "leads"]),
            (benches, ["Bench"]),
        ]:
            for name in names:
                self.assertEqual(getattr(module, name).__module__, module.__name__)


if __name__ == "__main__":
    unittest.main()
