"""Points [2] and [3] for every function: names, positions, wrong values, their sequence, and what stays as it was."""

import copy
import inspect
import unittest

from dueanywhere import clocks
from dueanywhere import errors
from dueanywhere.console import Console
from dueanywhere.house import House
from tests import helper
from tests.routines import ROUTINES
from tests.routines import WITHOUT
from tests.routines import is_line
from tests.routines import known_by

LONG = [[0, 1]] * 2600
DEEP = 0
for _ in range(16):
    DEEP = [DEEP]
ANY_VALUES = [None, True, False, 0, -1, 1, 8, 10 ** 40 - 1, 1 - 10 ** 40, "", "ring", (), [], [True], [None], ["0"],
              [-1], [0], [0, 0], [2, 0], (2, 0), [4, 2, 0], [[0]], [[0], [1, 2]], ([0], [1, 2]), [(0,), (1, 2)], [[]],
              LONG, DEEP, tuple(LONG), [0] * 8000, [10 ** 39], (3, ()), (0, 2, 2), (0, 2, None), [0, 2, 2],
              ("never", 0), ("ring", [0]), ("never", True), ("never", -1), ("never", 2),
              ("ring", None), ("never", [0]), (True, 0), (None, None),
              ["never", 0], ("ring", [4, 2, 0]), ("ring", [0], 0), errors.NoWorld([0]), [errors.NoWorld([0])],
              ((), (1, 3)), ((1, 2),), (((),), (), ()), (0, 0, 5), (1, 1, 144000), (1, 2, 0), ("look", 0, 1, 0, None),
              ("apart", 0, 0, 1, 0, 0, 0), ("look", 0, 1, None, None), ("apart", 0, 0), (("look",), 0, 1, 0, 0),
              [(2, 1, 3)], [(2, 1, True)], [(2, 1, 0)], [(2, 1)], [(True, 0, 1)], [([2], 1, 3)], [(2, 1, 3)] * 2,
              [(3, 1, 3), (2, 1, 3)], [(2, 1, 3), (2, 1, 4)], [(0, 3, 1)], [(2, 1, 3, 4)], [[2, 1, 3]], [3, 1], [3, True],
              ([], []), ([-2, 0], [0, 2, 0, 0]), ([-2, True], [0, 2, 0, 0]), ([4, 7], [(0, None), (1, None)]), ([4, 7], []),
              ([4, 7], [(False, None), (True, None)]), ([4, 7], [(0, ([4, 7], [])), (1, None)]), ((0, 3, 5), ([2], -1)),
              ((0, 3, 5), ([2], True)), ((0, 3, 5), ([0, 2], 1)), ((0, 3, 5), ((2,), -1)), ((0, 3, 5), ([], -1)),
              House(((),)), [House(((),))], (House(((), ())), None), Console()]


def outcome(call):
    """What a call returns or raises, to be compared."""
    try:
        return ("returns", call())
    except errors.DueError as error:
        return ("raises", type(error), getattr(error, "ring", None), getattr(error, "clash", None))


def is_within_limits(routine, value):
    """Whether a system or a cut has not far more points, worlds or items than the limits of use allow."""
    if "pairs" in routine.args and helper.is_int(value):
        return value <= 60
    if not helper.is_system(value):
        return True
    counts_worlds = routine.name in ("count_worlds", "worlds")
    return value[0] <= 24 and not (counts_worlds and any(bound[2] > 99 for bound in value[1]))


def is_right_clash(args, found):
    """Whether it is a clash by the words of point [24]."""
    steps = set(zip(found, found[1:]))
    return found[0] in args["inside"] and found[-1] in args["outside"] and steps <= set(args["pairs"])


class EveryFunction(unittest.TestCase):
    def test_the_names_of_the_parameters(self):
        for routine in ROUTINES:
            parameters = inspect.signature(routine.function).parameters.values()
            self.assertEqual([parameter.name for parameter in parameters], list(routine.args), routine.name)
            for parameter in parameters:
                by_name = parameter.name in routine.by_name
                kind = parameter.KEYWORD_ONLY if by_name else parameter.POSITIONAL_OR_KEYWORD
                self.assertEqual(parameter.kind, kind, routine.name)
                self.assertIs(parameter.default, None if by_name else parameter.empty, routine.name)

    def test_by_position_and_by_names(self):
        for routine in ROUTINES:
            told = routine.call()
            self.assertEqual(routine.function(**routine.args), told, routine.name)
            backwards = dict(reversed(list(routine.args.items())))
            self.assertEqual(routine.function(**backwards), told, routine.name)

    def test_arguments_stay(self):
        for routine in ROUTINES:
            args = copy.deepcopy(routine.args)
            routine.function(**args)
            self.assertEqual(args, routine.args, routine.name)

    def test_returned_lists_are_new_and_none_stands_twice(self):
        for routine in ROUTINES:
            told = routine.call()
            right = copy.deepcopy(told)
            seen = list(helper.lists_in(told))
            self.assertEqual(len({id(part) for part in seen}), len(seen), routine.name)
            handed_in = [id(part) for part in helper.lists_in(tuple(routine.args.values()))]
            self.assertFalse([part for part in seen if id(part) in handed_in], routine.name)
            for part in seen:
                part.append("spoiled")
            self.assertEqual(routine.call(), right, routine.name)

    def test_yes_and_no_are_truths(self):
        for routine in ROUTINES:
            if routine.name.startswith(("is_", "shows_", "are_")):
                self.assertIsInstance(routine.call(), bool, routine.name)


# What some functions raise behind all parameters, of right values that do not fit one another.
LAST = {"worlds": errors.EndlessWorlds, "parting": errors.InvalidSystem, "world_with": errors.InvalidNumber,
        "day_range": errors.Unsteady, "day_world": errors.Unsteady, "past_world": errors.InvalidPast,
        "in_flight": errors.InvalidTransfers, "staging_world": errors.InvalidStaging, "between": errors.InvalidSpan,
        "with_answer": errors.InvalidNumber}


class WrongValues(unittest.TestCase):
    def assert_raises(self, routine, error, changed):
        with self.assertRaises(errors.DueError, msg=f"{routine.name} {changed}") as caught:
            routine.call(**changed)
        self.assertIs(type(caught.exception), error, f"{routine.name} {changed}")

    def test_each_parameter_has_its_error(self):
        for routine in ROUTINES:
            for name in routine.args:
                tried = 0
                for value in routine.wrong_values(name):
                    self.assert_raises(routine, routine.error(name), {name: value})
                    tried += 1
                self.assertTrue(tried > 10 or routine.error(name) is None, f"{routine.name} {name}")

    def test_right_values_are_taken(self):
        for routine in ROUTINES:
            for name in routine.args:
                for value in helper.mutants(routine.args[name]):
                    changed = {**routine.args, name: value}
                    right = all(routine.is_right(part, changed[part], changed) for part in changed)
                    if right and is_within_limits(routine, value):
                        self.assert_taken(routine, changed)

    def assert_taken(self, routine, changed):
        """A call with right values returns, or raises what comes behind the parameters."""
        try:
            routine.call(**changed)
        except errors.NoWorld as error:
            if "book" in changed:
                self.assert_right_bar(changed["book"], error.ring)
                self.assertTrue(routine.behind == "book" or routine.name == "moment" and error.ring == [])
            else:
                self.assertEqual(routine.behind, "system", routine.name)
                self.assertTrue(helper.is_bad_ring(known_by(changed), error.ring), routine.name)
        except errors.NoSet as error:
            self.assertEqual(routine.behind, "set", routine.name)
            self.assertTrue(is_right_clash(changed, error.clash), routine.name)
        except errors.DueError as error:
            self.assertIs(type(error), LAST.get(routine.name), routine.name)

    def assert_right_bar(self, book, ring):
        if helper.is_void(book):
            self.assertEqual(ring, [])
        else:
            self.assertTrue(helper.is_bad_ring(clocks.system_of(book), ring))

    def test_the_first_one_of_two_wrong_values_counts(self):
        for routine in ROUTINES:
            names = [name for name in routine.args if routine.error(name) is not None]
            for at, first in enumerate(names):
                for second in names[at + 1:]:
                    for value, other in zip(list(routine.wrong_values(first))[:25], routine.wrong_values(second)):
                        self.assert_raises(routine, routine.error(first), {first: value, second: other})

    def test_parameters_come_ahead_of_what_is_behind_all_of_them(self):
        for routine in ROUTINES:
            for name in routine.args:
                without = WITHOUT.get(routine.behind, {})
                if not without or name == routine.behind or routine.error(name) is None:
                    continue
                for value in routine.wrong_values(name):
                    self.assert_raises(routine, routine.error(name), {**without, name: value})

    def test_no_world_comes_with_a_bad_ring_of_the_system(self):
        for system in [helper.BROKEN] + [system for system in helper.some_systems(3, 300, 3, 7, 4) if system[0] == 3]:
            if helper.box_worlds(system, 6):
                continue
            for routine in ROUTINES:
                if routine.behind == "system":
                    with self.assertRaises(errors.NoWorld, msg=routine.name) as caught:
                        routine.call(system=system)
                    known = known_by({**routine.args, "system": system})
                    self.assertTrue(helper.is_bad_ring(known, caught.exception.ring), routine.name)
                    if "looks" in routine.args:
                        self.assertTrue(helper.is_bad_ring(system, caught.exception.ring), routine.name)

    def test_no_world_comes_with_what_bars_the_book(self):
        both = (helper.BOOK[0], helper.BOOK[1], helper.BROKEN_BOOK[2] + helper.VOID_BOOK[2])
        for book in (helper.BROKEN_BOOK, helper.VOID_BOOK, both):
            for routine in ROUTINES:
                if routine.behind == "book":
                    with self.assertRaises(errors.NoWorld, msg=routine.name) as caught:
                        routine.call(book=book)
                    self.assert_right_bar(book, caught.exception.ring)

    def test_no_set_comes_with_a_clash(self):
        for routine in ROUTINES:
            if routine.behind == "set":
                for outside in ([3], [1, 3], (1,), [0], [1, 1]):
                    changed = {**routine.args, "inside": (0, 3), "outside": outside}
                    with self.assertRaises(errors.NoSet, msg=routine.name) as caught:
                        routine.call(**changed)
                    self.assertTrue(is_right_clash(changed, caught.exception.clash), routine.name)

    def test_the_others_never_raise_what_is_behind_all_parameters(self):
        for routine in ROUTINES:
            for kind in ("system", "book"):
                if routine.behind != kind and kind in routine.args:
                    told = outcome(lambda: routine.call(**WITHOUT[kind]))
                    with_world = "world" in routine.args
                    self.assertEqual(told[:2] == ("raises", errors.InvalidWorld), with_world, routine.name)
                    self.assertEqual(told[0] == "returns", not with_world, routine.name)
            if routine.behind != "set" and "inside" in routine.args:
                self.assertEqual(outcome(lambda: routine.call(**WITHOUT["set"]))[0], "returns", routine.name)

    def test_equal_calls_have_equal_outcomes(self):
        for routine in ROUTINES:
            for changed in ({}, WITHOUT.get(routine.behind, {})):
                first = outcome(lambda: routine.call(**changed))
                again = outcome(lambda: routine.call(**copy.deepcopy(changed)))
                self.assertEqual(first, again, routine.name)


class AnyValues(unittest.TestCase):
    def test_any_value_is_judged(self):
        for routine in ROUTINES:
            free = [name for name, kind in routine.kinds.items() if kind == "any"]
            for name in free:
                for value in ANY_VALUES + list(helper.mutants(routine.args[name])):
                    told = type(routine.call(**{name: value}))
                    right = (int, type(None)) if routine.name == "balance_tells" else (bool,)
                    self.assertIn(told, right, f"{routine.name} {name} {value}")

    def test_numbers_that_are_no_integers_make_the_answer_false(self):
        for routine in ROUTINES:
            if "number" in routine.kinds:
                for value in (None, True, False, "8", (8,), [8], ()):
                    self.assertIs(routine.call(number=value), False, routine.name)
                self.assertIs(routine.call(), routine.name != "shows_far", routine.name)

    def test_lists_of_indexes_are_judged_part_by_part(self):
        for value in ([4, 2, False], [4, 2, "0"], (4, 2, 0), [4, 2, None], [4, 2, [0]], "420"):
            for routine in ROUTINES:
                if routine.name in ("is_bad_ring", "shows_slack"):
                    self.assertIs(routine.call(system=helper.BROKEN, value=value), False)
                    self.assertIs(routine.call(system=helper.BROKEN, value=[4, 2, 0]), True)

    def test_wrong_systems_are_no_systems(self):
        judge = ROUTINES[0].function
        for value in helper.mutants(helper.SYSTEM):
            self.assertIs(judge(value), helper.is_system(value), value)

    def test_wrong_lines_are_no_lines(self):
        judge = [routine.function for routine in ROUTINES if routine.name == "is_line"][0]
        for line in ([], [[0]], [[0], [1, 2]], [[2], [0, 1]], [[0, 1, 2]], [[1], [0]], [[0], [2], [1]]):
            for value in [line] + list(helper.mutants(line)) + ANY_VALUES:
                for count in (0, 1, 2, 3):
                    self.assertIs(judge(count, value), is_line(count, value), f"{count} {value}")


if __name__ == "__main__":
    unittest.main()
