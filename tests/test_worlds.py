"""Points [11] to [13] and [5] (a): some, lowest, highest, all worlds, walks, and the nearest world."""

import itertools
import unittest

from dueanywhere import errors
from dueanywhere.bounds import bad_ring, greatest_gap
from dueanywhere.worlds import (count_worlds, first_broken, greater, highest, is_world, lesser, lowest, moves_between,
                                near, nearest, shows_far, some_world, walk, world_with, worlds)
from tests import helper
from tests.helper import BIG, BROKEN, SYSTEM

ENDLESS = (2, ((1, 0, 3),))


class Examples(unittest.TestCase):
    def test_those_of_the_interface(self):
        self.assertEqual((lowest(SYSTEM), highest(SYSTEM)), ((0, 2, 2), (0, 5, 8)))
        self.assertEqual((count_worlds(SYSTEM), moves_between(SYSTEM, (0, 2, 2), (0, 4, 5))), (16, 3))
        self.assertEqual(nearest(SYSTEM, (0, 9, 9))[0], 4)
        self.assertEqual((lowest(ENDLESS), highest(ENDLESS), count_worlds(ENDLESS)), ((0, None), (0, 3), None))
        self.assertEqual(walk(SYSTEM, (0, 2, 2), (0, 2, 3)), [(0, 2, 2), (0, 2, 3)])
        self.assertEqual(lesser(SYSTEM, (0, 2, 5), (0, 3, 3)), (0, 2, 3))
        self.assertEqual(near((2, ()), (0, 7), 2), (2, ((1, 0, 9), (0, 1, -5))))
        self.assertEqual(world_with((2, ()), 1, 0, -4), (0, -4))


class Worlds(unittest.TestCase):
    def test_what_is_a_world(self):
        for moments in itertools.product((0, 1), range(0, 8), range(0, 10)):
            self.assertIs(is_world(SYSTEM, moments), moments[0] == 0 and helper.keeps(SYSTEM, moments), moments)
            self.assertIs(is_world(BROKEN, moments), False)

    def test_what_is_none(self):
        for value in (None, 3, [0, 2, 2], (0, 2), (0, 2, 2, 2), (0, 2, None), (0, 2, "2"), (False, 2, 2),
                      (None, 2, 2), (1, 3, 3), (0, True, 2), (0, 2, (2,)), ()):
            self.assertIs(is_world(SYSTEM, value), False, value)
        self.assertIs(is_world((2, ()), (0, True)), False)
        self.assertIs(is_world((1, ()), (0,)), True)
        self.assertIs(is_world((1, ()), (False,)), False)

    def test_first_broken(self):
        for system in helper.some_systems(21, 60, 3, 6, 3):
            for moments in itertools.product([0], *[range(-4, 5)] * (system[0] - 1)):
                broken = [k for k, (i, j, most) in enumerate(system[1]) if moments[i] - moments[j] > most]
                self.assertEqual(first_broken(system, moments), broken[0] if broken else None)

    def test_some_world(self):
        for system in helper.with_worlds(22, 300, 5, 10, 5) + [(1, ()), (24, ())]:
            self.assertTrue(helper.is_world(system, some_world(system)), system)

    def test_world_with_each_difference(self):
        for system in helper.with_worlds(23, 80, 4, 7, 4):
            for i, j in itertools.product(range(system[0]), repeat=2):
                most, fall = greatest_gap(system, i, j), greatest_gap(system, j, i)
                for difference in list(range(-12, 13)) + [BIG, -BIG]:
                    comes = (most is None or difference <= most) and (fall is None or -difference <= fall)
                    self.assert_world_with(system, i, j, difference, comes)

    def assert_world_with(self, system, i, j, difference, comes):
        if comes:
            world = world_with(system, i, j, difference)
            self.assertTrue(helper.is_world(system, world))
            self.assertEqual(world[i] - world[j], difference)
        else:
            with self.assertRaises(errors.InvalidNumber):
                world_with(system, i, j, difference)

    def test_world_with_without_worlds(self):
        with self.assertRaises(errors.NoWorld):
            world_with(BROKEN, 1, 0, 10 ** 9)
        with self.assertRaises(errors.NoWorld):
            world_with(BROKEN, 1, 1, 3)
        with self.assertRaises(errors.InvalidNumber):
            world_with(BROKEN, 1, 0, True)


class Ends(unittest.TestCase):
    def test_against_all_worlds_of_a_box(self):
        for system in helper.with_worlds(24, 150, 4, 6, 3):
            told = helper.boxed(system, 3)
            found = helper.box_worlds(told, 3)
            if found:
                self.assertEqual(lowest(told), tuple(min(moments) for moments in zip(*found)))
                self.assertEqual(highest(told), tuple(max(moments) for moments in zip(*found)))

    def test_ends_that_there_are_not(self):
        for system in helper.with_worlds(25, 150, 4, 6, 3):
            gaps = helper.table_by_passing(system)
            self.assertEqual(lowest(system), tuple(None if gap is None else -gap for gap in gaps[0]))
            self.assertEqual(highest(system), tuple(row[0] for row in gaps))

    def test_points_without_bounds(self):
        self.assertEqual((lowest((3, ())), highest((3, ()))), ((0, None, None), (0, None, None)))
        self.assertEqual((lowest((1, ())), highest((1, ()))), ((0,), (0,)))
        self.assertEqual(lowest((2, ((0, 1, BIG),))), (0, -BIG))


class Walks(unittest.TestCase):
    def assert_walk(self, system, world, other_world):
        rises = [b - a for a, b in zip(world, other_world)]
        fewest = max(0, *rises) + max(0, *[-rise for rise in rises])
        self.assertEqual(moves_between(system, world, other_world), fewest)
        told = walk(system, world, other_world)
        self.assertEqual(len(told), fewest + 1)
        self.assertEqual((told[0], told[-1]), (world, other_world))
        for step, later in zip(told, told[1:]):
            moved = {b - a for a, b in zip(step, later) if a != b}
            self.assertIn(moved, ({1}, {-1}))
        for step in told:
            self.assertTrue(helper.is_world(system, step), (system, world, other_world, told))

    def test_between_all_worlds_of_a_box(self):
        for system in helper.with_worlds(26, 40, 4, 6, 2):
            found = helper.box_worlds(system, 2)[::3]
            for world, other_world in itertools.product(found, repeat=2):
                self.assert_walk(system, world, other_world)
                self.assertEqual(lesser(system, world, other_world), tuple(map(min, world, other_world)))
                self.assertEqual(greater(system, world, other_world), tuple(map(max, world, other_world)))

    def test_no_walk_is_shorter(self):
        for system in [SYSTEM] + [helper.boxed(system, 1) for system in helper.with_worlds(27, 20, 3, 4, 2)]:
            found = helper.box_worlds(system, 8)
            for world in found:
                for other_world, fewest in self.distances(found, world).items():
                    self.assertEqual(moves_between(system, world, other_world), fewest)

    def distances(self, found, world):
        """The fewest moves from a world to each one, step by step."""
        reached, edge = {world: 0}, [world]
        while edge:
            edge = [other for other in found if other not in reached and any(self.is_move(a, other) for a in edge)]
            reached.update({other: max(reached.values()) + 1 for other in edge})
        return reached

    def is_move(self, one, other):
        return {b - a for a, b in zip(one, other)} - {0} in ({1}, {-1})

    def test_to_the_world_itself(self):
        self.assertEqual(walk(SYSTEM, (0, 3, 3), (0, 3, 3)), [(0, 3, 3)])
        self.assertEqual(moves_between((1, ()), (0,), (0,)), 0)
        self.assertEqual(walk((1, ()), (0,), (0,)), [(0,)])

    def test_long_walks_and_large_numbers(self):
        system = (4, ((1, 2, 1), (2, 1, 0), (3, 1, 200)))
        self.assert_walk(system, (0, BIG, BIG, -BIG), (0, BIG - 140, BIG - 141, 160 - BIG))
        world, other_world = (0, BIG, BIG, -BIG), (0, -BIG, -BIG, -BIG - BIG)
        self.assertEqual(moves_between(system, world, other_world), 2 * BIG)


class AllWorlds(unittest.TestCase):
    def test_against_all_worlds_of_a_box(self):
        for points, reach, many in ((3, 4, 150), (4, 2, 100), (5, 1, 60)):
            for system in helper.with_worlds(28, many, points, 8, reach):
                told = helper.boxed(system, reach)
                found = helper.box_worlds(told, reach)
                if 0 < len(found) <= 400:
                    self.assertEqual(worlds(told), found)
                    self.assertEqual(count_worlds(told), len(found))

    def test_endlessly_many(self):
        for system in helper.with_worlds(29, 200, 5, 6, 3) + [ENDLESS, (2, ((0, 1, 3),)), (24, ((1, 0, 1), (0, 1, 1)))]:
            gaps = helper.table_by_passing(system)
            if None in gaps[0] or None in [row[0] for row in gaps]:
                self.assertIsNone(count_worlds(system))
                with self.assertRaises(errors.EndlessWorlds):
                    worlds(system)

    def test_without_worlds_and_one_world(self):
        for call in (count_worlds, worlds):
            with self.assertRaises(errors.NoWorld):
                call((3, ((0, 1, -1), (1, 0, 0))))
        self.assertEqual((worlds((1, ())), count_worlds((1, ()))), ([(0,)], 1))
        self.assertEqual(worlds((2, ((1, 0, -BIG), (0, 1, BIG)))), [(0, -BIG)])
        tied = (3, ((1, 0, BIG), (0, 1, 2 - BIG), (2, 1, 0), (1, 2, 0)))
        self.assertEqual(worlds(tied), [(0, BIG - 2, BIG - 2), (0, BIG - 1, BIG - 1), (0, BIG, BIG)])


class NearWorlds(unittest.TestCase):
    def test_the_bounds_of_near(self):
        self.assertEqual(near(SYSTEM, (0, 9, -4), 1), (3, SYSTEM[1] + ((1, 0, 10), (0, 1, -8), (2, 0, -3), (0, 2, 5))))
        self.assertEqual(near((1, ()), (0,), 0), (1, ()))
        self.assertEqual(near(BROKEN, (0, 0, 0), BIG)[1][5:], ((1, 0, BIG), (0, 1, BIG), (2, 0, BIG), (0, 2, BIG)))
        for amount in (-1, True, None, "1"):
            with self.assertRaises(errors.InvalidNumber):
                near(SYSTEM, (0, 9, 9), amount)

    def test_against_all_worlds_of_a_box(self):
        for system in helper.with_worlds(30, 100, 3, 6, 3):
            told = helper.boxed(system, 5)
            found = helper.box_worlds(told, 5)
            for wish in itertools.product([0], *[(-7, -2, 0, 1, 6)] * (told[0] - 1)):
                if found:
                    least = min(self.distance(world, wish) for world in found)
                    self.assert_nearest(told, wish, least)

    def distance(self, world, wish):
        return max(abs(a - b) for a, b in zip(world, wish))

    def assert_nearest(self, system, wish, least):
        told = nearest(system, wish)
        self.assertIsInstance(told, tuple)
        self.assertEqual(told[0], least)
        self.assertTrue(helper.is_world(system, told[1]))
        self.assertEqual(self.distance(told[1], wish), least)
        if least > 0:
            ring = bad_ring(near(system, wish, least - 1))
            self.assertIs(shows_far(system, wish, least, ring), True)
            self.assertIs(shows_far(system, wish, least + 1, ring), helper.is_bad_ring(near(system, wish, least), ring))
        self.assertIs(shows_far(system, wish, 0, []), False)

    def test_of_larger_systems(self):
        for system in helper.with_worlds(31, 100, 5, 9, 4):
            wish = (0, 9, -9, 4, -30)[:system[0]]
            self.assert_least_by_rings(system, wish)
            self.assert_least_by_rings(system, tuple(moment * (BIG // 30) for moment in wish))

    def assert_least_by_rings(self, system, wish):
        least, world = nearest(system, wish)
        self.assertTrue(helper.is_world(system, world))
        self.assertEqual(self.distance(world, wish), least)
        if least > 0:
            self.assertTrue(helper.is_bad_ring(near(system, wish, least - 1), bad_ring(near(system, wish, least - 1))))

    def test_a_wish_that_is_a_world(self):
        self.assertEqual(nearest(SYSTEM, (0, 3, 4)), (0, (0, 3, 4)))
        self.assertEqual(nearest((1, ()), (0,)), (0, (0,)))
        self.assertEqual(nearest((2, ()), (0, BIG)), (0, (0, BIG)))

    def test_rings_are_judged(self):
        wish = (0, 9, 9)
        self.assertEqual(near(SYSTEM, wish, 3)[1][4:], ((1, 0, 12), (0, 1, -6), (2, 0, 12), (0, 2, -6)))
        self.assertIs(shows_far(SYSTEM, wish, 4, [0, 5]), True)
        self.assertIs(shows_far(SYSTEM, wish, 4, [5, 0]), True)
        self.assertIs(shows_far(SYSTEM, wish, 5, [0, 5]), False)
        self.assertIs(shows_far(SYSTEM, wish, 1, [0, 5]), True)
        for number in (0, -1, True, None, "4", [4]):
            self.assertIs(shows_far(SYSTEM, wish, number, [0, 5]), False, number)
        for value in ([], [0], (0, 5), [0, 5, 0, 5], [0, 8], [0, -1], None, [False, 5]):
            self.assertIs(shows_far(SYSTEM, wish, 4, value), False, value)
        self.assertIs(shows_far(BROKEN, wish, BIG, [4, 2, 0]), True)


if __name__ == "__main__":
    unittest.main()
