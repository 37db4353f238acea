"""Points [29] and [30]: pasts of small systems beside all worlds of a box, and of large ones."""

import itertools
import random
import unittest

from dueanywhere import bounds
from dueanywhere import cuts
from dueanywhere import errors
from dueanywhere import pasts
from dueanywhere import worlds
from tests import helper

SYSTEM = (2, ((1, 0, 90), (0, 1, -30)))
SPOTS, AT = [(0, 100), (1, 20), (1, 60), (0, 130)], (0, 105)


def past_of(world, spots, at):
    """The past by the words of point [29]."""
    end = world[at[0]] + at[1]
    return [index for index, (point, shift) in enumerate(spots) if world[point] + shift < end]


def asked(seed, many, points=3, reach=3):
    """Tuples (system, spots, at) of boxed systems, so that their worlds can be tried one by one."""
    rolls = random.Random(seed)
    found = []
    for system in helper.some_systems(seed, many, points, 6, reach):
        system = helper.boxed(system, reach)
        spots = [(rolls.randrange(system[0]), rolls.randint(-reach, reach)) for _ in range(rolls.randint(0, 6))]
        found.append((system, spots, (rolls.randrange(system[0]), rolls.randint(-reach, reach))))
    return found


def items_by_words(found, spots, at):
    """What past_items tells, by the words of point [30]; found are all worlds."""
    told = [past_of(world, spots, at) for world in found]
    moments = [helper.moments_of(world, spots) for world in found]
    indexes = range(len(spots))
    pairs = [(a, b) for a, b in itertools.permutations(indexes, 2) if all(row[b] <= row[a] for row in moments)]
    inside = [index for index in indexes if all(index in past for past in told)]
    return (pairs, inside, [index for index in indexes if not any(index in past for past in told)])


class Examples(unittest.TestCase):
    def test_all_of_them(self):
        told = [pasts.past_items(SYSTEM, SPOTS, AT), pasts.pasts(SYSTEM, SPOTS, AT)]
        self.assertEqual(told, [([(2, 1), (3, 0), (3, 1)], [0], [3]), [[0], [0, 1], [0, 1, 2]]])
        told = [pasts.past_bar(SYSTEM, SPOTS, AT, [0, 2]), pasts.past_bar(SYSTEM, SPOTS, AT, [1]),
                pasts.past_in(SYSTEM, (0, 50), SPOTS, AT)]
        self.assertEqual(told, [("brings", 2, 1), ("sure", 0), [0, 1]])

    def test_what_has_the_moment_of_the_spot_is_not_ahead_of_it(self):
        spots = [(0, 4), (0, 5), (0, 6), (1, 0)]
        system = (2, ((1, 0, 5), (0, 1, -4)))
        self.assertEqual(pasts.past_in(system, (0, 5), spots, (0, 5)), [0])
        self.assertEqual(pasts.past_in(system, (0, 5), spots, (0, 6)), [0, 1, 3])
        self.assertEqual(pasts.past_in(system, (0, 4), spots, (0, 5)), [0, 3])
        self.assertEqual(pasts.past_items(system, spots, (0, 5)), ([(1, 0), (1, 3), (2, 0), (2, 1), (2, 3), (3, 0)],
                                                                   [0], [1, 2]))
        self.assertEqual(pasts.pasts(system, spots, (0, 5)), [[0], [0, 3]])


class AllWorlds(unittest.TestCase):
    def test_pasts_are_those_of_the_worlds(self):
        seen = {True: 0, False: 0}
        for system, spots, at in asked(1, 400):
            found = helper.box_worlds(system, 3)
            seen[found == []] += 1
            if not found:
                continue
            right = sorted({tuple(past_of(world, spots, at)) for world in found})
            right = [list(past) for past in right]
            self.assertEqual(pasts.pasts(system, spots, at), right)
            self.assertEqual(pasts.sure_past(system, spots, at), min(right, key=len))
            self.assertEqual(pasts.widest_past(system, spots, at), max(right, key=len))
            items = pasts.past_items(system, spots, at)
            self.assertEqual(items, items_by_words(found, spots, at))
            self.assertEqual(cuts.closed_sets(len(spots), *items), right)
            for world in found[::7]:
                self.assertEqual(pasts.past_in(system, world, spots, at), past_of(world, spots, at))
        self.assertGreater(min(seen.values()), 30)

    def test_each_row_is_a_past_or_barred(self):
        for system, spots, at in asked(2, 200):
            found = helper.box_worlds(system, 3)
            told = [past_of(world, spots, at) for world in found]
            for many in range(len(spots) + 1):
                for row in map(list, itertools.combinations(range(len(spots)), many)):
                    self.assertIs(pasts.is_past(system, spots, at, row), row in told)
                    if found:
                        self.assert_told(system, spots, at, row, found, row in told)

    def assert_told(self, system, spots, at, row, found, right):
        bar = pasts.past_bar(system, spots, at, row)
        self.assertEqual(bar, bar_by_words(items_by_words(found, spots, at), row))
        self.assertEqual(bar is None, right)
        if right:
            world = pasts.past_world(system, spots, at, row)
            self.assertIn(world, found)
            self.assertEqual(past_of(world, spots, at), row)
        else:
            with self.assertRaises(errors.InvalidPast):
                pasts.past_world(system, spots, at, row)

    def test_signed_sums_come_in_worlds(self):
        rolls = random.Random(3)
        for system, spots, at in asked(4, 150):
            found = helper.box_worlds(system, 3)
            if not found:
                continue
            weights = [rolls.randint(-4, 4) for _ in spots]
            sums = {sum(weights[index] for index in past_of(world, spots, at)) for world in found}
            cut = (weights, *pasts.past_items(system, spots, at))
            self.assertEqual(cuts.all_sums(*cut), sorted(sums))
            self.assertEqual([cuts.least_sum(*cut), cuts.greatest_sum(*cut)], [min(sums), max(sums)])
            for past in cuts.least_sets(*cut) + cuts.greatest_sets(*cut):
                self.assertEqual(past_of(pasts.past_world(system, spots, at, past), spots, at), past)

    def test_one_bound_more_brings_no_past(self):
        rolls = random.Random(5)
        for system, spots, at in asked(6, 150):
            if system[0] < 2 or bounds.bad_ring(system):
                continue
            more = bounds.plus(system, [(*rolls.sample(range(system[0]), 2), rolls.randint(-3, 3))])
            if bounds.bad_ring(more) is None:
                told = pasts.pasts(system, spots, at)
                self.assertTrue(all(past in told for past in pasts.pasts(more, spots, at)))

    def test_systems_without_a_box(self):
        # Points that nothing ties, or one bound alone: what a large box tells of few points is right.
        rolls = random.Random(7)
        for system in helper.with_worlds(8, 200, 3, 3, 3):
            spots = [(rolls.randrange(system[0]), rolls.randint(-2, 2)) for _ in range(4)]
            at = (rolls.randrange(system[0]), rolls.randint(-2, 2))
            found = helper.box_worlds(system, 14)
            right = [list(past) for past in sorted({tuple(past_of(world, spots, at)) for world in found})]
            self.assertEqual(pasts.pasts(system, spots, at), right)
            self.assertEqual(pasts.past_items(system, spots, at), items_by_words(found, spots, at))
            for row in right:
                world = pasts.past_world(system, spots, at, row)
                self.assertTrue(helper.is_world(system, world))
                self.assertEqual(past_of(world, spots, at), row)


def bar_by_words(items, row):
    """The first reason why a row is no past, None if there is none."""
    pairs, inside, outside = items
    reasons = [("sure", k) for k in inside if k not in row] + [("never", a) for a in outside if a in row]
    reasons += [("brings", a, b) for a, b in pairs if a in row and b not in row]
    return (reasons + [None])[0]


class Edges(unittest.TestCase):
    def test_spots_of_one_point(self):
        spots = [(1, 7), (1, 3), (1, 5), (1, 3)]
        told = ([(0, 1), (0, 2), (0, 3), (1, 3), (2, 1), (2, 3), (3, 1)], [1, 3], [0, 2])
        self.assertEqual(pasts.past_items((2, ()), spots, (1, 4)), told)
        self.assertEqual(pasts.pasts((2, ()), spots, (1, 4)), [[1, 3]])
        self.assertEqual(pasts.pasts((2, ()), spots, (0, 4)), [[], [0, 1, 2, 3], [1, 2, 3], [1, 3]])
        self.assertEqual(pasts.past_bar((2, ()), spots, (0, 4), [2]), ("brings", 2, 1))
        self.assertEqual(pasts.past_bar((2, ()), spots, (0, 4), [1]), ("brings", 1, 3))

    def test_spots_that_nothing_ties(self):
        system = (4, ())
        spots = [(1, 0), (2, 10 ** 30), (3, -10 ** 30)]
        self.assertEqual(pasts.past_items(system, spots, (0, 5)), ([], [], []))
        told = pasts.pasts(system, spots, (0, 5))
        self.assertEqual(told, [[], [0], [0, 1], [0, 1, 2], [0, 2], [1], [1, 2], [2]])
        for row in told:
            world = pasts.past_world(system, spots, (0, 5), row)
            self.assertEqual(past_of(world, spots, (0, 5)), row)

    def test_equal_spots_come_together(self):
        spots = [(1, 4), (1, 4), (1, 4)]
        self.assertEqual(pasts.pasts((2, ()), spots, (0, 0)), [[], [0, 1, 2]])
        self.assertEqual(pasts.past_items((2, ()), spots, (1, 4)),
                         ([(0, 1), (0, 2), (1, 0), (1, 2), (2, 0), (2, 1)], [], [0, 1, 2]))
        self.assertEqual(pasts.pasts((2, ()), spots, (1, 5)), [[0, 1, 2]])
        tied = (3, ((1, 2, 3), (2, 1, -3)))
        self.assertEqual(pasts.pasts(tied, [(1, 0), (2, 3)], (0, 0)), [[], [0, 1]])

    def test_no_spots(self):
        self.assertEqual(pasts.past_items(SYSTEM, [], AT), ([], [], []))
        self.assertEqual([pasts.pasts(SYSTEM, [], AT), pasts.sure_past(SYSTEM, [], AT)], [[[]], []])
        self.assertEqual([pasts.widest_past(SYSTEM, [], AT), pasts.past_in(SYSTEM, (0, 50), [], AT)], [[], []])
        self.assertIs(pasts.is_past(SYSTEM, [], AT, []), True)
        self.assertIsNone(pasts.past_bar(SYSTEM, [], AT, []))
        self.assertTrue(helper.is_world(SYSTEM, pasts.past_world(SYSTEM, [], AT, [])))

    def test_the_sequence_of_bars(self):
        spots = [(0, 200), (0, 100), (1, 60), (1, 20), (0, 101), (0, 300)]
        self.assertEqual(pasts.past_items(SYSTEM, spots, AT)[1:], ([1, 4], [0, 5]))
        for row, bar in (([0, 2, 4, 5], ("sure", 1)), ([0, 1, 2, 5], ("sure", 4)), ([0, 1, 2, 4, 5], ("never", 0)),
                         ([1, 2, 4, 5], ("never", 5)), ([1, 2, 4], ("brings", 2, 3)), ([1, 2, 3, 4], None),
                         ([1, 4], None), ([], ("sure", 1))):
            self.assertEqual(pasts.past_bar(SYSTEM, spots, AT, row), bar)

    def test_without_worlds(self):
        broken = (2, SYSTEM[1] + ((1, 0, 20),))
        for row in ([], [0], [0, 1], [0, 1, 2]):
            self.assertIs(pasts.is_past(broken, SPOTS, AT, row), False)
        for call in (lambda: pasts.past_bar(broken, SPOTS, AT, [0]), lambda: pasts.past_world(broken, SPOTS, AT, [0]),
                     lambda: pasts.pasts(broken, SPOTS, AT), lambda: pasts.past_items(broken, SPOTS, AT),
                     lambda: pasts.sure_past(broken, [], AT), lambda: pasts.widest_past(broken, [], AT)):
            with self.assertRaises(errors.NoWorld) as caught:
                call()
            self.assertTrue(helper.is_bad_ring(broken, caught.exception.ring))

    def test_too_many(self):
        system = (24, ())
        spots = [(point, 0) for point in range(1, 12)]
        self.assertEqual(len(pasts.pasts(system, spots[:10], (0, 0))), 1024)
        with self.assertRaises(errors.TooMany):
            pasts.pasts(system, spots, (0, 0))

    def test_rows_that_are_no_lists_of_indexes(self):
        broken = (2, SYSTEM[1] + ((1, 0, 20),))
        for row in (None, (0, 1), [0, True], [1, 0], [0, 0], [4], [-1], ["0"], [[0]], "0", 0, [0, None], [10 ** 39]):
            self.assertIs(pasts.is_past(SYSTEM, SPOTS, AT, row), False)
            for system in (SYSTEM, broken):
                with self.assertRaises(errors.InvalidPast):
                    pasts.past_bar(system, SPOTS, AT, row)
                with self.assertRaises(errors.InvalidPast):
                    pasts.past_world(system, SPOTS, AT, row)


class Limits(unittest.TestCase):
    """24 points, 120 bounds, 24 spots and numbers of 30 digits."""

    def test_large_systems(self):
        for seed in range(6):
            rolls = random.Random(seed)
            system, world = helper.large_system(seed)
            at = (rolls.randrange(24), rolls.randint(-helper.BIG, helper.BIG))
            end = world[at[0]] + at[1]
            spots = []
            for point in range(24):
                spots.append((point, end - world[point] + rolls.choice([0, -1, 1, rolls.randint(-10 ** 28, 10 ** 28)])))
            self.assert_right(system, world, spots, at)

    def test_spots_tied_by_all_bounds(self):
        for seed in range(3):
            system, world = helper.large_system(seed, tied=True)
            spots = [(point, 5 + point % 3 - world[point]) for point in range(24)]
            self.assert_right(system, world, spots, (0, 6))
            told = [point for point in range(24) if point % 3 == 0]
            self.assertEqual(pasts.pasts(system, spots, (0, 6)), [told])

    def assert_right(self, system, world, spots, at):
        pairs, inside, outside = pasts.past_items(system, spots, at)
        gaps = helper.table_by_passing(system)
        right = [(a, b) for a, b in itertools.permutations(range(24), 2) if most_behind(gaps, spots[a], spots[b]) <= 0]
        self.assertEqual(pairs, right)
        self.assertEqual(inside, [k for k in range(24) if most_behind(gaps, at, spots[k]) < 0])
        self.assertEqual(outside, [k for k in range(24) if most_behind(gaps, spots[k], at) <= 0])
        told = past_of(world, spots, at)
        self.assertEqual(pasts.past_in(system, world, spots, at), told)
        for row in (told, pasts.sure_past(system, spots, at), pasts.widest_past(system, spots, at)):
            self.assertIs(pasts.is_past(system, spots, at, row), True)
            self.assertIsNone(pasts.past_bar(system, spots, at, row))
            found = pasts.past_world(system, spots, at, row)
            self.assertTrue(worlds.is_world(system, found))
            self.assertEqual(past_of(found, spots, at), row)


def most_behind(gaps, one, other):
    """The greatest gap from one spot to the other."""
    return gaps[other[0]][one[0]] + other[1] - one[1]


if __name__ == "__main__":
    unittest.main()
