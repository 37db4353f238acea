"""Points [6] to [10] and [5] (a): systems, chains, rings, gaps, needed bounds, slack, alike systems."""

import itertools
import unittest

from dueanywhere import errors
from dueanywhere.bounds import (are_alike, bad_ring, chain_for, deciding, greatest_gap, groups, idle, is_bad_ring,
                                is_system, loosened, needed, parting, plus, shows_most, shows_slack, slack, slack_ring,
                                table, without)
from dueanywhere.worlds import some_world
from tests import helper
from tests.helper import BIG, BROKEN, SYSTEM


class Examples(unittest.TestCase):
    def test_those_of_the_interface(self):
        self.assertIsNone(bad_ring(SYSTEM))
        self.assertEqual(greatest_gap(SYSTEM, 2, 0), 8)
        self.assertEqual(chain_for(SYSTEM, 2, 0), [2, 0])
        self.assertEqual(deciding(SYSTEM, 2, 0), [0, 2])
        self.assertEqual(table(SYSTEM), [[0, -2, -2], [5, 0, 0], [8, 3, 0]])
        self.assertEqual(slack(plus(SYSTEM, [(0, 2, -9)])), 1)
        self.assertEqual(idle(plus(SYSTEM, [(2, 0, 9)])), [4])
        self.assertEqual(needed(SYSTEM), [0, 1, 2, 3])
        self.assertIsNone(greatest_gap((2, ()), 0, 1))
        self.assertIs(is_bad_ring(plus(SYSTEM, [(0, 2, -9)]), [4, 2, 0]), True)
        self.assertEqual(groups((3, ((1, 0, 4), (0, 1, -4)))), [[0, 1], [2]])


class Systems(unittest.TestCase):
    def test_what_is_a_system(self):
        for value in ((1, ()), (2, ((0, 1, BIG), (0, 1, BIG), (1, 0, -BIG))), SYSTEM, BROKEN, (10 ** 39, ())):
            self.assertIs(is_system(value), True, value)

    def test_what_is_none(self):
        bound = (0, 1, 5)
        for value in (None, (), 3, "system", (0, ()), (-1, ()), (True, ()), (2, []), [2, ()], (2,), (2, (), ()),
                      (2, None), (1, (bound,)), (2, bound)):
            self.assertIs(is_system(value), False, value)
        for value in (None, [0, 1, 5], (0, 1), (0, 1, 5, 6), (0, 0, 5), (0, 2, 5), (2, 0, 5), (-1, 0, 5), (0, True, 5),
                      (False, 1, 5), (0, 1, True), (0, 1, None), (0, 1, "5")):
            self.assertIs(is_system((2, (value,))), False, value)
            self.assertIs(is_system((2, (bound, bound, value))), False, value)
            self.assertIs(is_system((2, (value, bound))), False, value)

    def test_plus_without_loosened(self):
        self.assertEqual(plus(SYSTEM, [(0, 2, -9), (0, 2, -9)]), (3, SYSTEM[1] + ((0, 2, -9), (0, 2, -9))))
        self.assertEqual(plus(SYSTEM, ((0, 2, -9),)), BROKEN)
        self.assertEqual(plus(SYSTEM, []), SYSTEM)
        self.assertEqual(plus((1, ()), ()), (1, ()))
        for index in range(5):
            self.assertEqual(without(BROKEN, index), (3, BROKEN[1][:index] + BROKEN[1][index + 1:]))
        for amount in (0, 1, -7, BIG, -BIG):
            self.assertEqual(loosened(SYSTEM, amount), (3, tuple((i, j, most + amount) for i, j, most in SYSTEM[1])))
        for system in (plus(BROKEN, []), without(BROKEN, 0), loosened(BROKEN, -1)):
            self.assertIs(is_system(system), True)

    def test_without_of_a_system_without_bounds(self):
        for index in (0, -1, True, None):
            with self.assertRaises(errors.InvalidIndex):
                without((2, ()), index)


class Rings(unittest.TestCase):
    def test_a_system_has_a_world_or_a_bad_ring(self):
        for system in helper.some_systems(11, 400, 4, 8, 4):
            ring = bad_ring(system)
            if ring is None:
                self.assertTrue(helper.is_world(system, some_world(system)), system)
            else:
                self.assertTrue(helper.is_bad_ring(system, ring), (system, ring))
                self.assertEqual(helper.box_worlds(system, 5), [])

    def test_all_lists_of_indexes_are_judged(self):
        for system in [BROKEN, (3, ((0, 1, -1), (1, 0, 0), (1, 2, -3), (2, 0, 2), (0, 1, 1)))]:
            for length in range(5):
                for chain in itertools.product(range(-1, 6), repeat=length):
                    value = list(chain)
                    self.assertIs(is_bad_ring(system, value), helper.is_bad_ring(system, value), value)

    def test_what_is_no_bad_ring(self):
        twice = (2, ((0, 1, -1), (1, 0, 0)))
        self.assertIs(is_bad_ring(twice, [0, 1]), True)
        self.assertIs(is_bad_ring(twice, [1, 0]), True)
        for value in ([], [0], [0, 1, 0, 1], (0, 1), [1, 1], [0, 2], [0, -1], [False, 1], [0, True], None, "01", 0):
            self.assertIs(is_bad_ring(twice, value), False, value)
        self.assertIs(is_bad_ring((2, ((0, 1, 0), (1, 0, 0))), [0, 1]), False)


class Gaps(unittest.TestCase):
    def test_one_point_alone(self):
        self.assertEqual(greatest_gap((1, ()), 0, 0), 0)
        self.assertEqual(chain_for((1, ()), 0, 0), [])
        self.assertEqual(deciding((1, ()), 0, 0), [])
        self.assertEqual(table((1, ())), [[0]])
        self.assertEqual(groups((1, ())), [[0]])
        self.assertEqual((idle((1, ())), needed((1, ()))), ([], []))

    def test_points_without_bounds(self):
        self.assertEqual(table((2, ())), [[0, None], [None, 0]])
        self.assertEqual(groups((3, ())), [[0], [1], [2]])
        self.assertIsNone(chain_for((2, ((0, 1, 3),)), 1, 0))
        self.assertEqual(deciding((2, ((0, 1, 3),)), 1, 0), [])
        self.assertEqual(chain_for((2, ((0, 1, 3),)), 0, 1), [0])

    def test_against_passing_point_by_point(self):
        for system in helper.some_systems(12, 400, 5, 10, 4):
            if bad_ring(system) is not None:
                continue
            right = helper.table_by_passing(system)
            self.assertEqual(table(system), right, system)
            for i, j in itertools.product(range(system[0]), repeat=2):
                self.assertEqual(greatest_gap(system, i, j), right[i][j])
                self.assert_chain(system, i, j, right[i][j])

    def assert_chain(self, system, i, j, least):
        chain = chain_for(system, i, j)
        if least is None:
            self.assertIsNone(chain)
            return
        self.assertTrue(helper.is_chain(system, i, j, chain))
        self.assertTrue(helper.is_simple(system, chain))
        self.assertEqual(helper.sum_of(system, chain), least)
        self.assertEqual(chain == [], i == j)
        self.assertIs(shows_most(system, i, j, least, chain), True)
        self.assertIs(shows_most(system, i, j, least - 1, chain), False)

    def test_deciding_bounds_grow_the_gap(self):
        for system in helper.some_systems(13, 200, 4, 8, 3):
            if bad_ring(system) is not None:
                continue
            for i, j in itertools.product(range(system[0]), repeat=2):
                gap = greatest_gap(system, i, j)
                grown = []
                for index, (a, b, most) in enumerate(system[1]):
                    more = (system[0], system[1][:index] + ((a, b, most + 1),) + system[1][index + 1:])
                    if gap is not None and greatest_gap(more, i, j) > gap:
                        grown.append(index)
                self.assertEqual(deciding(system, i, j), grown, (system, i, j))

    def test_a_bound_twice_does_not_decide(self):
        self.assertEqual(deciding((2, ((1, 0, 3), (1, 0, 3))), 1, 0), [])
        self.assertEqual(deciding((2, ((1, 0, 3), (1, 0, 4))), 1, 0), [0])
        self.assertEqual(deciding((2, ((1, 0, 3), (0, 1, -3))), 1, 1), [])

    def test_groups(self):
        tied = (5, ((3, 1, 2), (1, 3, -2), (4, 0, 7), (0, 4, -7), (2, 1, 0)))
        self.assertEqual(groups(tied), [[0, 4], [1, 3], [2]])
        ring = (3, ((0, 1, 1), (1, 2, 2), (2, 0, -3)))
        self.assertEqual(groups(ring), [[0, 1, 2]])
        self.assertEqual(groups((2, ((0, 1, 1), (1, 0, 0)))), [[0], [1]])

    def test_chains_are_judged_by_themselves(self):
        system = (3, ((0, 1, -1), (1, 0, 0), (1, 2, 4)))
        self.assertIsNotNone(bad_ring(system))
        self.assertIs(shows_most(system, 0, 2, 3, [0, 2]), True)
        self.assertIs(shows_most(system, 0, 2, 1, [0, 1, 0, 1, 0, 2]), True)
        self.assertIs(shows_most(system, 0, 2, 0, [0, 1, 0, 1, 0, 2]), False)
        for i, j in ((0, 1), (2, 2), (1, 2), (2, 0)):
            self.assertIs(shows_most(system, i, j, 100, [0, 2]), False)
        for i, j, number in itertools.product(range(3), range(3), (-1, 0, 1)):
            self.assertIs(shows_most(system, i, j, number, []), i == j and number >= 0)
        for value in ([0, 3], [0, -1], [False, 2], (0, 2), [2, 0], None, "02", [0, [2]], 2):
            self.assertIs(shows_most(system, 0, 2, 100, value), False)
        for number in (True, None, "100", (100,)):
            self.assertIs(shows_most(system, 0, 2, number, [0, 2]), False)
        self.assertIs(shows_most(SYSTEM, 1, 1, True, []), False)


class NeededBounds(unittest.TestCase):
    REACH = 12

    def worlds(self, points, bounds):
        return helper.box_worlds((points, tuple(bounds)), self.REACH)

    def test_against_all_worlds_of_a_box(self):
        for points, bounds in helper.some_systems(14, 120, 3, 6, 3):
            told = list(enumerate(bounds))
            right = [k for k, _ in told
                     if self.worlds(points, bounds) == self.worlds(points, bounds[:k] + bounds[k + 1:])]
            self.assertEqual(idle((points, bounds)), right, bounds)
            for part in reversed(list(told)):
                fewer = [other for other in told if other != part]
                if self.worlds(points, [b for _, b in told]) == self.worlds(points, [b for _, b in fewer]):
                    told = fewer
            self.assertEqual(needed((points, bounds)), [k for k, _ in told], bounds)

    def test_bounds_that_stand_twice(self):
        twice = (2, ((1, 0, 3), (1, 0, 3), (1, 0, 3)))
        self.assertEqual((idle(twice), needed(twice)), ([0, 1, 2], [0]))

    def test_without_worlds(self):
        broken = (2, ((1, 0, 0), (0, 1, -1), (1, 0, 5)))
        self.assertEqual((idle(broken), needed(broken)), ([2], [0, 1]))
        doubly = (2, ((1, 0, 0), (0, 1, -1), (1, 0, 0), (0, 1, -1)))
        self.assertEqual((idle(doubly), needed(doubly)), ([0, 1, 2, 3], [0, 1]))


class Slack(unittest.TestCase):
    def test_the_least_amount(self):
        for system in helper.some_systems(15, 300, 5, 10, 5):
            least = slack(system)
            self.assertIsNone(bad_ring(loosened(system, least)))
            ring = slack_ring(system)
            if least == 0:
                self.assertIsNone(ring)
                continue
            self.assertIsNotNone(bad_ring(loosened(system, least - 1)))
            self.assertTrue(helper.is_ring(system, ring))
            self.assertLess(helper.sum_of(system, ring) + (least - 1) * len(ring), 0)
            self.assertIs(shows_slack(system, least, ring), True)
            self.assertIs(shows_slack(system, least + 1, ring), False)

    def test_with_worlds(self):
        self.assertEqual((slack(SYSTEM), slack_ring(SYSTEM)), (0, None))
        self.assertEqual((slack((1, ())), slack_ring((1, ()))), (0, None))

    def test_large_numbers(self):
        for most in (BIG, BIG - 1, BIG - 2):
            system = (3, ((0, 1, -most), (1, 2, 0), (2, 0, 0), (0, 2, BIG)))
            self.assertEqual(slack(system), -(-most // 3))
            self.assertEqual(sorted(slack_ring(system)), [0, 1, 2])

    def test_rings_are_judged(self):
        system = (2, ((0, 1, -9), (1, 0, 0), (1, 0, -2)))
        self.assertEqual(slack(system), 6)
        self.assertIs(shows_slack(system, 6, [0, 2]), True)
        self.assertIs(shows_slack(system, 7, [0, 2]), False)
        self.assertIs(shows_slack(system, 5, [1, 0]), True)
        self.assertIs(shows_slack(system, 6, [1, 0]), False)
        for number in (0, -1, True, False, None, "1", [1]):
            self.assertIs(shows_slack(system, number, [0, 2]), False, number)
        for value in ([], [0], [0, 1, 0, 2], (0, 2), [0, 3], None, [0, "2"]):
            self.assertIs(shows_slack(system, 1, value), False, value)
        self.assertIs(shows_slack((2, ((0, 1, 0), (1, 0, 0))), 1, [0, 1]), False)


class AlikeSystems(unittest.TestCase):
    def test_against_all_worlds_of_a_box(self):
        systems = [system for system in helper.some_systems(16, 90, 3, 4, 3) if system[0] == 3][:40]
        told = [(system, helper.box_worlds(system, 9)) for system in systems]
        for (system, own), (other_system, others) in itertools.product(told, repeat=2):
            self.assertIs(are_alike(system, other_system), own == others)
            self.assert_parting(system, other_system, own == others)

    def assert_parting(self, system, other_system, alike):
        parted = parting(system, other_system)
        if alike:
            self.assertIsNone(parted)
            return
        self.assertIsInstance(parted, tuple)
        number, world = parted
        pair = (system, other_system)
        self.assertTrue(helper.is_int(number))
        self.assertTrue(helper.is_world(pair[number], world))
        self.assertFalse(helper.keeps(pair[1 - number], world))

    def test_without_worlds(self):
        worse = (3, ((0, 1, -1), (1, 0, -1)))
        self.assertIs(are_alike(BROKEN, worse), True)
        self.assertIsNone(parting(BROKEN, worse))
        self.assertEqual(parting(SYSTEM, BROKEN)[0], 0)
        self.assertEqual(parting(BROKEN, SYSTEM)[0], 1)

    def test_only_one_way(self):
        narrow = plus(SYSTEM, [(1, 0, 4)])
        self.assertEqual(parting(SYSTEM, narrow)[0], 0)
        self.assertEqual(parting(narrow, SYSTEM)[0], 1)

    def test_unlike_numbers_of_points(self):
        self.assertIs(are_alike((1, ()), (2, ())), False)
        self.assertIs(are_alike(BROKEN, (2, ((0, 1, -1), (1, 0, -1)))), False)
        with self.assertRaises(errors.InvalidSystem):
            parting((1, ()), (2, ()))
        with self.assertRaises(errors.InvalidSystem):
            parting(BROKEN, (2, ((0, 1, -1), (1, 0, -1))))


if __name__ == "__main__":
    unittest.main()
