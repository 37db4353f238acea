"""Points [17] and [18]: lines of spots and pieces."""

import itertools
import random
import unittest

from dueanywhere import errors
from dueanywhere.orders import (always_before, is_line, line_in, line_steps, line_world, lines, sum_steps)
from tests import helper
from tests.helper import BIG, SYSTEM
from tests.routines import is_line as is_right_line

ONE, OTHER = (1, 10), (2, 8)


def some_spots(seed, points, many):
    """Spots of these points, the same ones in each run."""
    rolls = random.Random(seed)
    return [(rolls.choice(points), rolls.randint(-2, 2)) for _ in range(many)]


def all_lines(count):
    """All lines of count spots, ascending."""
    found = {str(line): line for steps in itertools.product(range(count), repeat=count)
             for line in [helper.line_of(steps)]}
    return sorted(found.values())


class Examples(unittest.TestCase):
    def test_those_of_the_interface(self):
        self.assertEqual(lines(SYSTEM, [ONE, OTHER]), [[[0], [1]], [[0, 1]], [[1], [0]]])
        self.assertEqual(always_before(SYSTEM, [ONE, OTHER, (2, 9)]), [(1, 2)])
        self.assertEqual(line_steps(SYSTEM, 1, 2, [ONE, OTHER]),
                         [(0, 1, [[1], [0]]), (2, 2, [[0, 1]]), (3, 3, [[0], [1]])])
        self.assertEqual(sum_steps(SYSTEM, 1, 2, [ONE, OTHER], [7, -3], ONE), [(0, 2, 4), (3, 3, 7)])


class Lines(unittest.TestCase):
    def test_what_is_a_line(self):
        for count in range(5):
            told = all_lines(count)
            self.assertEqual(len(told), (1, 1, 3, 13, 75)[count])
            for line in told:
                self.assertIs(is_line(count, line), True, line)
                for other in (count - 1, count + 1, 10 ** 39):
                    if other >= 0:
                        self.assertIs(is_line(other, line), False, line)

    def test_what_is_none(self):
        for value in ([[0], [1], []], [[1, 0], [2]], [[0, 1], [1, 2]], [[0, 0, 1], [2]], ([0], [1], [2]),
                      [(0,), [1], [2]], [[0], [1], [3]], [[-1], [0], [1]], [[0], [1]], [[0], [True], [2]],
                      [[False], [1], [2]], [0, 1, 2],
                      [[[0]], [1], [2]], [[0], [1], [2], [2]], None, "012", [[0], [1], "2"], 3, [], [[]]):
            self.assertIs(is_line(3, value), False, value)
            self.assertFalse(is_right_line(3, value), value)
            with self.assertRaises(errors.InvalidLine):
                line_world(SYSTEM, [ONE, OTHER, (2, 9)], value)
        self.assertIs(is_line(0, []), True)
        self.assertIs(is_line(0, [[]]), False)

    def test_the_count_is_a_number_from_0_on(self):
        for count in (-1, True, False, None, "3", [3]):
            with self.assertRaises(errors.InvalidNumber):
                is_line(count, [])

    def test_line_in_a_world(self):
        self.assertEqual(line_in(SYSTEM, [ONE, OTHER, (2, 9), ONE], (0, 2, 4)), [[0, 1, 3], [2]])
        self.assertEqual(line_in(SYSTEM, [], (0, 2, 2)), [])
        for world in helper.box_worlds(SYSTEM, 8):
            spots = some_spots(world[2], (0, 1, 2), 7)
            self.assertEqual(line_in(SYSTEM, spots, world), helper.line_of(helper.moments_of(world, spots)))


class LinesThatCome(unittest.TestCase):
    def test_against_all_worlds_of_a_box(self):
        for seed, system in enumerate(helper.with_worlds(51, 90, 4, 6, 3)):
            told = helper.boxed(system, 3)
            found = helper.box_worlds(told, 3)
            if found:
                self.assert_lines(told, found, some_spots(seed, range(told[0]), seed % 5))

    def assert_lines(self, system, found, spots):
        come = {str(line): line for world in found for line in [helper.line_of(helper.moments_of(world, spots))]}
        self.assertEqual(lines(system, spots), sorted(come.values()))
        for line in all_lines(len(spots)):
            world = line_world(system, spots, line)
            self.assertEqual(world is not None, str(line) in come)
            if world is not None:
                self.assertIn(world, found)
                self.assertEqual(helper.line_of(helper.moments_of(world, spots)), line)
        moments = [helper.moments_of(world, spots) for world in found]
        pairs = itertools.product(range(len(spots)), repeat=2)
        self.assertEqual(always_before(system, spots), [(a, b) for a, b in pairs if all(m[a] < m[b] for m in moments)])

    def test_five_spots(self):
        self.assertEqual(lines((5, ()), [(i, 0) for i in range(5)]), all_lines(5))
        self.assertEqual(lines((1, ()), [(0, shift) for shift in (4, 1, 4, BIG, -BIG)]), [[[4], [1], [0, 2], [3]]])
        self.assertEqual(always_before((5, ()), [(i, 0) for i in range(5)]), [])

    def test_no_list_stands_twice(self):
        spots = [(i, 0) for i in range(4)]
        for told in (lines((4, ()), spots), line_steps((2, ()), 0, 1, [(0, k) for k in range(5)] + [(1, 0), (1, 2)])):
            found = [id(part) for part in helper.lists_in(told)]
            self.assertEqual(len(found), len(set(found)))

    def test_no_spots(self):
        self.assertEqual(lines(SYSTEM, []), [[]])
        self.assertEqual(always_before(SYSTEM, []), [])
        self.assertTrue(helper.is_world(SYSTEM, line_world(SYSTEM, [], [])))

    def test_one_spot_twice(self):
        self.assertEqual(lines((2, ()), [(1, 3), (1, 3), (1, 4)]), [[[0, 1], [2]]])
        self.assertEqual(always_before((2, ()), [(1, 3), (1, 3), (1, 4)]), [(0, 2), (1, 2)])
        self.assertIsNone(line_world((2, ()), [(1, 3), (1, 3)], [[0], [1]]))
        self.assertIsNone(line_world((2, ()), [(1, 3), (1, 4)], [[0, 1]]))
        self.assertIsNone(line_world((2, ()), [(1, 3), (1, 4)], [[1], [0]]))


class Pieces(unittest.TestCase):
    def differences(self, pieces, reach):
        """What the pieces tell for each difference of a range."""
        told = {}
        for low, high, value in pieces:
            low = -reach if low is None else low
            high = reach if high is None else high
            told.update({difference: value for difference in range(low, high + 1)})
        return told

    def assert_pieces(self, pieces, ends):
        self.assertIsInstance(pieces, list)
        self.assertEqual((pieces[0][0], pieces[-1][1]), ends)
        for piece, later in zip(pieces, pieces[1:]):
            self.assertEqual(piece[1] + 1, later[0])
            self.assertNotEqual(piece[2], later[2])
        for piece in pieces:
            self.assertIsInstance(piece, tuple)
            self.assertTrue(None in piece[:2] or piece[0] <= piece[1], piece)

    def test_lines_against_all_worlds_of_a_box(self):
        for seed, system in enumerate(helper.with_worlds(52, 200, 4, 5, 3)):
            told = helper.boxed(system, 3)
            found = helper.box_worlds(told, 3)
            if found and told[0] > 1:
                i, j = random.Random(seed).sample(range(told[0]), 2)
                spots = some_spots(seed, (i, j), seed % 7)
                come = {world[j] - world[i]: helper.line_of(helper.moments_of(world, spots)) for world in found}
                pieces = line_steps(told, i, j, spots)
                self.assert_pieces(pieces, (min(come), max(come)))
                self.assertEqual(self.differences(pieces, 0), come)

    def test_sums_against_all_worlds_of_a_box(self):
        for seed, system in enumerate(helper.with_worlds(53, 300, 4, 5, 3)):
            told = helper.boxed(system, 3)
            found = helper.box_worlds(told, 3)
            if found and told[0] > 1:
                i, j = random.Random(seed).sample(range(told[0]), 2)
                *spots, until = some_spots(seed, (i, j), 1 + seed % 7)
                amounts = [random.Random(seed + k).randint(-2, 2) for k in range(len(spots))]
                come = {world[j] - world[i]: self.sum_in(world, spots, amounts, until) for world in found}
                pieces = sum_steps(told, i, j, spots, amounts, until)
                self.assert_pieces(pieces, (min(come), max(come)))
                self.assertEqual(self.differences(pieces, 0), come)

    def sum_in(self, world, spots, amounts, until):
        end = world[until[0]] + until[1]
        return sum(amount for amount, (point, shift) in zip(amounts, spots) if world[point] + shift <= end)

    def test_ends_that_there_are_not(self):
        spots, amounts = some_spots(7, (1, 2), 6), [5, -1, 4, 2, -8, 3]
        for bounds, ends in (((), (None, None)), (((2, 1, 4),), (None, 4)), (((1, 2, 4),), (-4, None))):
            system = (3, bounds)
            pieces = line_steps(system, 1, 2, spots)
            self.assert_pieces(pieces, ends)
            sums = sum_steps(system, 1, 2, spots, amounts, spots[0])
            self.assert_pieces(sums, ends)
            low, high = (-20 if ends[0] is None else ends[0]), (20 if ends[1] is None else ends[1])
            for difference in range(low, high + 1):
                world = (0, 50, 50 + difference)
                line = helper.line_of(helper.moments_of(world, spots))
                told = self.sum_in(world, spots, amounts, spots[0])
                self.assertEqual(self.differences(pieces, 20)[difference], line)
                self.assertEqual(self.differences(sums, 20)[difference], told)

    def test_one_piece_if_nothing_changes(self):
        self.assertEqual(line_steps((2, ()), 0, 1, []), [(None, None, [])])
        self.assertEqual(line_steps(SYSTEM, 1, 2, []), [(0, 3, [])])
        self.assertEqual(line_steps(SYSTEM, 1, 2, [(1, 5), (1, 4), (1, 5)]), [(0, 3, [[1], [0, 2]])])
        self.assertEqual(line_steps(SYSTEM, 2, 1, [(1, 5), (2, 99)]), [(-3, 0, [[0], [1]])])
        self.assertEqual(sum_steps((2, ()), 0, 1, [], [], (1, 4)), [(None, None, 0)])
        self.assertEqual(sum_steps((2, ()), 0, 1, [(0, 3), (1, 4)], [0, 6], (1, 4)), [(None, None, 6)])
        self.assertEqual(sum_steps(SYSTEM, 1, 2, [(1, 5), (2, 3), (2, 3)], [8, 6, -6], (1, 5)), [(0, 3, 8)])

    def test_moments_that_are_equal_are_not_later(self):
        self.assertEqual(sum_steps((2, ()), 0, 1, [(1, 10)], [5], (0, 4)), [(None, -6, 5), (-5, None, 0)])
        self.assertEqual(sum_steps((2, ()), 0, 1, [(0, 10)], [5], (1, 4)), [(None, 5, 0), (6, None, 5)])
        self.assertEqual(sum_steps((2, ()), 1, 0, [(0, 10)], [5], (1, 4)), [(None, -6, 5), (-5, None, 0)])

    def test_large_numbers(self):
        self.assertEqual(line_steps((2, ()), 0, 1, [(0, BIG), (1, -BIG)]),
                         [(None, 2 * BIG - 1, [[1], [0]]), (2 * BIG, 2 * BIG, [[0, 1]]),
                          (2 * BIG + 1, None, [[0], [1]])])
        self.assertEqual(sum_steps((2, ()), 0, 1, [(1, -BIG)], [-BIG], (0, BIG)),
                         [(None, 2 * BIG, -BIG), (2 * BIG + 1, None, 0)])

    def test_points_that_are_not_two(self):
        for call, more in ((line_steps, ([],)), (sum_steps, ([], [], (1, 0)))):
            with self.assertRaises(errors.InvalidPoint):
                call(SYSTEM, 1, 1, *more)
            with self.assertRaises(errors.InvalidPoint):
                call(SYSTEM, 1, True, *more)

    def test_spots_of_neither_point(self):
        with self.assertRaises(errors.InvalidSpots):
            line_steps(SYSTEM, 1, 2, [ONE, (0, 3)])
        with self.assertRaises(errors.InvalidSpots):
            sum_steps(SYSTEM, 1, 2, [ONE, (0, 3)], [True], ONE)
        with self.assertRaises(errors.InvalidWeights):
            sum_steps(SYSTEM, 1, 2, [ONE], [True], (0, 3))
        with self.assertRaises(errors.InvalidSpots):
            sum_steps(SYSTEM, 1, 2, [ONE], [1], (0, 3))


if __name__ == "__main__":
    unittest.main()
