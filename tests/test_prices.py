"""Points [36] to [40]: stages, totals and sums between spots, of small systems beside all worlds of a box."""

import itertools
import random
import unittest

from dueanywhere import cuts
from dueanywhere import errors
from dueanywhere import prices
from dueanywhere.orders import gap
from tests import helper
from tests.helper import BIG

SYSTEM = (2, ((1, 0, 90), (0, 1, -30)))
SPOTS, MARKS = [(1, 20), (1, 60)], [(0, 60), (0, 105)]


def when(world, spot):
    return world[spot[0]] + spot[1]


def stage_of(world, spot, marks):
    """The stage by the words of point [36]."""
    return sum(when(world, mark) <= when(world, spot) for mark in marks)


def staging_of(world, spots, marks):
    return [stage_of(world, spot, marks) for spot in spots]


def total_of(costs, staging):
    return sum(row[stage] for row, stage in zip(costs, staging))


def between_in(world, spots, weights, first, last):
    return sum(weight for spot, weight in zip(spots, weights)
               if when(world, first) <= when(world, spot) < when(world, last))


def ends_of(told):
    return (min(told), max(told))


def some_spots(rolls, system, most, reach=3):
    return [(rolls.randrange(system[0]), rolls.randint(-reach, reach)) for _ in range(rolls.randint(0, most))]


def some_marks(rolls, system, most=3):
    point = rolls.randrange(system[0])
    return [(point, shift) for shift in sorted(rolls.sample(range(-5, 6), rolls.randint(1, most)))]


def some_costs(rolls, spots, marks):
    return [[rolls.randint(-5, 5) for _ in range(len(marks) + 1)] for _ in spots]


def asked(seed, many, points=3, reach=3):
    """Tuples (system, spots, marks, costs, worlds) of boxed systems with worlds."""
    rolls = random.Random(seed)
    found = []
    for system in helper.some_systems(seed, many, points, 6, reach):
        system = helper.boxed(system, reach)
        told = helper.box_worlds(system, reach)
        if told:
            spots, marks = some_spots(rolls, system, 3), some_marks(rolls, system)
            found.append((system, spots, marks, some_costs(rolls, spots, marks), told))
    return found


def items_by_words(found, spots, marks):
    """The tuple (pairs, inside, outside) of the cells, by the words of point [38]; found are all worlds."""
    cells = list(itertools.product(range(len(spots)), range(len(marks))))
    on = {(a, c): [when(world, spots[a]) < when(world, marks[c]) for world in found] for a, c in cells}
    gaps = {(a, b): max(when(world, spots[b]) - when(world, spots[a]) for world in found)
            for a, b in itertools.product(range(len(spots)), repeat=2)}
    pairs = []
    for (item, (a, c)), (other, (b, e)) in itertools.permutations(enumerate(cells), 2):
        if gaps[a, b] <= marks[e][1] - marks[c][1]:
            pairs.append((item, other))
    inside = [item for item, cell in enumerate(cells) if all(on[cell])]
    return (sorted(pairs), inside, [item for item, cell in enumerate(cells) if not any(on[cell])])


class Examples(unittest.TestCase):
    def test_all_of_them(self):
        told = [prices.stage_range(SYSTEM, (1, 20), MARKS), prices.stage_range(SYSTEM, (1, 60), MARKS),
                prices.stagings(SYSTEM, SPOTS, MARKS)]
        self.assertEqual(told, [(0, 2), (1, 2), [[0, 1], [1, 1], [1, 2], [2, 2]]])
        told = [prices.price_totals(SYSTEM, [((1, 20), 3), ((1, 60), 2)], MARKS, [10, 20, 15]),
                prices.between(SYSTEM, [(0, 130)], [1], (0, 100), (1, 90))]
        self.assertEqual(told, [(70, 100), (0, 1)])


class AllWorlds(unittest.TestCase):
    def test_stages_and_stagings(self):
        for system, spots, marks, _, found in asked(1, 300):
            told = [staging_of(world, spots, marks) for world in found]
            right = [list(row) for row in sorted({tuple(row) for row in told})]
            self.assertEqual(prices.stagings(system, spots, marks), right)
            for world, row in list(zip(found, told))[::5]:
                self.assertEqual(prices.staging_in(system, world, spots, marks), row)
            for index, spot in enumerate(spots):
                stages = sorted({row[index] for row in told})
                self.assertEqual(stages, list(range(stages[0], stages[-1] + 1)))
                self.assertEqual(prices.stage_range(system, spot, marks), ends_of(stages))
            for row in itertools.product(range(len(marks) + 1), repeat=len(spots)):
                self.assert_row(system, spots, marks, list(row), right)

    def assert_row(self, system, spots, marks, row, right):
        self.assertIs(prices.is_staging(system, spots, marks, row), row in right)
        if row in right:
            world = prices.staging_world(system, spots, marks, row)
            self.assertTrue(helper.is_world(system, world))
            self.assertEqual(staging_of(world, spots, marks), row)
        else:
            with self.assertRaises(errors.InvalidStaging):
                prices.staging_world(system, spots, marks, row)

    def test_parts(self):
        for system, spots, marks, costs, found in asked(2, 250):
            weights, pairs, inside, outside, rest = prices.stage_parts(system, spots, marks, costs)
            self.assertEqual((pairs, inside, outside), items_by_words(found, spots, marks))
            self.assertEqual(rest, sum(row[-1] for row in costs))
            self.assertEqual(weights, [row[c] - row[c + 1] for row in costs for c in range(len(marks))])
            told = {total_of(costs, staging_of(world, spots, marks)) for world in found}
            sums = cuts.all_sums(weights, pairs, inside, outside)
            self.assertEqual([part + rest for part in sums], sorted(told))
            # A list of stages is a staging exactly if its cells are a closed set.
            for row in itertools.product(range(len(marks) + 1), repeat=len(spots)):
                cells = [a * len(marks) + c for a, stage in enumerate(row) for c in range(stage, len(marks))]
                closed = cuts.is_closed(len(weights), pairs, inside, outside, cells)
                self.assertIs(prices.is_staging(system, spots, marks, list(row)), closed)

    def test_totals(self):
        rolls = random.Random(3)
        for system, spots, marks, costs, found in asked(4, 300):
            told = [total_of(costs, staging_of(world, spots, marks)) for world in found]
            ends = ends_of(told)
            self.assertEqual(prices.totals(system, spots, marks, costs), ends)
            for end, routine in zip(ends, (prices.cheapest_staging, prices.dearest_staging)):
                row = routine(system, spots, marks, costs)
                self.assertEqual(total_of(costs, row), end)
                self.assertIs(prices.is_staging(system, spots, marks, row), True)
            uses = [(spot, rolls.randint(-3, 3)) for spot in spots]
            table = [rolls.randint(-9, 9) for _ in range(len(marks) + 1)]
            told = [sum(amount * table[stage_of(world, spot, marks)] for spot, amount in uses) for world in found]
            self.assertEqual(prices.price_totals(system, uses, marks, table), ends_of(told))

    def test_sums_between(self):
        rolls = random.Random(5)
        seen = {"sum": 0, "span": 0}
        for system, _, _, _, found in asked(6, 400):
            spots = some_spots(rolls, system, 4)
            weights = [rolls.randint(-5, 5) for _ in spots]
            first = (rolls.randrange(system[0]), rolls.randint(-7, 1))
            last = (rolls.randrange(system[0]), first[1] + rolls.randint(-1, 6))
            if any(when(world, first) > when(world, last) for world in found):
                seen["span"] += 1
                with self.assertRaises(errors.InvalidSpan):
                    prices.between(system, spots, weights, first, last)
            else:
                seen["sum"] += 1
                told = [between_in(world, spots, weights, first, last) for world in found]
                self.assertEqual(prices.between(system, spots, weights, first, last), ends_of(told))
        self.assertGreater(min(seen.values()), 60)

    def test_sums_between_without_a_box(self):
        rolls = random.Random(9)
        seen = {"ends": 0, "no ends": 0}
        for system in helper.with_worlds(10, 500, 3, 3, 2):
            spots = some_spots(rolls, system, 4, 2)
            weights = [rolls.randint(-5, 5) for _ in spots]
            first = (rolls.randrange(system[0]), rolls.randint(-2, 2))
            last = (rolls.randrange(system[0]), first[1] + rolls.randint(0, 6))
            least, greatest = gap(system, first, last)
            if least is None or least < 0 or greatest is None:
                with self.assertRaises(errors.InvalidSpan):
                    prices.between(system, spots, weights, first, last)
                continue
            told = [between_in(world, spots, weights, first, last) for world in helper.box_worlds(system, 14)]
            self.assertEqual(prices.between(system, spots, weights, first, last), ends_of(told))
            free = any(None in gap(system, first, spot) for spot in spots)
            seen["no ends" if free else "ends"] += 1
        self.assertGreater(min(seen.values()), 40, seen)

    def test_systems_without_a_box(self):
        rolls = random.Random(7)
        for system in helper.with_worlds(8, 150, 3, 3, 2):
            spots, marks = some_spots(rolls, system, 3, 2), some_marks(rolls, system, 2)
            costs = some_costs(rolls, spots, marks)
            found = helper.box_worlds(system, 14)
            told = [staging_of(world, spots, marks) for world in found]
            self.assertEqual(prices.stagings(system, spots, marks), [list(row) for row in sorted(set(map(tuple, told)))])
            self.assertEqual(prices.totals(system, spots, marks, costs), ends_of([total_of(costs, row) for row in told]))
            for index, spot in enumerate(spots):
                self.assertEqual(prices.stage_range(system, spot, marks), ends_of([row[index] for row in told]))


class Edges(unittest.TestCase):
    def test_a_mark_at_the_moment_of_a_spot_is_not_later(self):
        for shift, stage in ((59, 0), (60, 1), (61, 1), (104, 1), (105, 2)):
            self.assertEqual(prices.stage_range(SYSTEM, (0, shift), MARKS), (stage, stage))
            self.assertEqual(prices.staging_in(SYSTEM, (0, 40), [(0, shift), (1, shift - 40)], MARKS), [stage, stage])

    def test_no_spots(self):
        self.assertEqual(prices.stagings(SYSTEM, [], MARKS), [[]])
        self.assertEqual(prices.stage_parts(SYSTEM, [], MARKS, []), ([], [], [], [], 0))
        self.assertEqual([prices.totals(SYSTEM, [], MARKS, []), prices.price_totals(SYSTEM, [], MARKS, [1, 2, 3])],
                         [(0, 0), (0, 0)])
        self.assertEqual(prices.between(SYSTEM, [], [], (0, 0), (1, 0)), (0, 0))
        self.assertIs(prices.is_staging(SYSTEM, [], MARKS, []), True)
        self.assertEqual([prices.cheapest_staging(SYSTEM, [], MARKS, []), prices.staging_in(SYSTEM, (0, 40), [], MARKS)],
                         [[], []])

    def test_one_mark_and_eight(self):
        spots = [(1, 0), (1, 3)]
        self.assertEqual(prices.stagings(SYSTEM, spots, [(0, 50)]), [[0, 0], [0, 1], [1, 1]])
        marks = [(0, 35 + 5 * k) for k in range(8)]
        right = sorted({tuple(staging_of((0, x), spots, marks)) for x in range(30, 91)})
        self.assertEqual(prices.stagings(SYSTEM, spots, marks), [list(row) for row in right])
        self.assertEqual(prices.stage_range(SYSTEM, (1, 0), marks), (0, 8))
        for wrong in (marks + [(0, 99)], [], None, tuple(marks), [(0, 5), (0, 5)], [(0, 6), (0, 5)], [(0, 5), (1, 6)],
                      [[0, 5]], [(0, True)], [(2, 5)], [(0, 5), None]):
            with self.assertRaises(errors.InvalidMarks):
                prices.stagings(SYSTEM, spots, wrong)

    def test_spots_without_bounds(self):
        self.assertEqual(prices.stage_range((2, ()), (1, 0), MARKS), (0, 2))
        self.assertEqual(prices.stage_range((2, ((1, 0, 70),)), (1, 0), MARKS), (0, 1))
        self.assertEqual(prices.stage_range((2, ((0, 1, -70),)), (1, 0), MARKS), (1, 2))
        self.assertEqual(prices.totals((2, ()), [(1, 0)], MARKS, [[BIG, -BIG, 0]]), (-BIG, BIG))
        self.assertEqual(prices.stage_parts((2, ()), [(1, 0)], MARKS, [[7, 5, 9]]), ([2, -4], [(0, 1)], [], [], 9))

    def test_spots_of_the_point_of_the_marks(self):
        spots = [(0, 0), (0, 60), (0, 500)]
        self.assertEqual(prices.stagings(SYSTEM, spots, MARKS), [[0, 1, 2]])
        parts = prices.stage_parts(SYSTEM, spots, MARKS, [[1, 2, 3]] * 3)
        self.assertEqual(parts[2:], ([0, 1, 3], [2, 4, 5], 9))
        self.assertEqual(prices.totals(SYSTEM, spots, MARKS, [[1, 2, 3]] * 3), (6, 6))

    def test_rows_that_are_no_stages(self):
        broken = (2, SYSTEM[1] + ((1, 0, 20),))
        for row in (None, (0, 1), [0], [0, 1, 1], [0, 3], [0, -1], [0, True], [False, 1], ["0", 1], [[0], 1], "01", 5):
            self.assertIs(prices.is_staging(SYSTEM, SPOTS, MARKS, row), False)
            for system in (SYSTEM, broken):
                with self.assertRaises(errors.InvalidStaging):
                    prices.staging_world(system, SPOTS, MARKS, row)
        self.assertIs(prices.is_staging(SYSTEM, SPOTS, MARKS, [0, 1]), True)
        self.assertIs(prices.is_staging(broken, SPOTS, MARKS, [0, 1]), False)
        with self.assertRaises(errors.NoWorld):
            prices.staging_world(broken, SPOTS, MARKS, [0, 1])

    def test_too_many_stagings(self):
        system = (24, ())
        spots = [(point, 0) for point in range(1, 12)]
        self.assertEqual(len(prices.stagings(system, spots[:10], [(0, 0)])), 1024)
        with self.assertRaises(errors.TooMany):
            prices.stagings(system, spots, [(0, 0)])
        with self.assertRaises(errors.TooMany):
            prices.stagings(system, spots[:4], [(0, k) for k in range(8)])
        self.assertEqual(len(prices.stagings(system, spots[:3], [(0, k) for k in range(8)])), 729)

    def test_first_at_the_moment_of_last(self):
        self.assertEqual(prices.between(SYSTEM, [(0, 5), (0, 5)], [7, -9], (0, 5), (0, 5)), (0, 0))
        self.assertEqual(prices.between(SYSTEM, [(0, 5), (0, 6)], [7, -9], (0, 5), (0, 6)), (7, 7))
        self.assertEqual(prices.between(SYSTEM, [(1, 5), (1, 6)], [7, -9], (1, 5), (1, 7)), (-2, -2))
        self.assertEqual(prices.between(SYSTEM, [(0, 40)], [-3], (0, 30), (1, 0)), (-3, 0))

    def test_spans_that_are_too_long(self):
        spot = [(0, 100)]
        for most, right in ((399, True), (400, False), (401, False)):
            system = (2, ((1, 0, most), (0, 1, 0)))
            if right:
                self.assertEqual(prices.between(system, spot, [4], (0, 0), (1, 0)), (0, 4))
            else:
                with self.assertRaises(errors.InvalidSpan):
                    prices.between(system, spot, [4], (0, 0), (1, 0))
        for system, first, last in (((2, ((0, 1, 0),)), (0, 0), (1, 0)), ((2, ((1, 0, 9),)), (0, 0), (1, 0)),
                                    (SYSTEM, (0, 31), (1, 0)), (SYSTEM, (1, 5), (1, 4)), ((2, ()), (0, 0), (1, 0))):
            with self.assertRaises(errors.InvalidSpan):
                prices.between(system, spot, [4], first, last)
            with self.assertRaises(errors.InvalidWeights):
                prices.between(system, spot, [], first, last)
        with self.assertRaises(errors.NoWorld):
            prices.between((2, ((1, 0, -1), (0, 1, 0))), spot, [4], (0, 1), (0, 0))

    def test_wrong_cost_tables(self):
        for costs in (None, [[1, 2, 3]], [[1, 2, 3]] * 3, ([1, 2, 3], [1, 2, 3]), [(1, 2, 3)] * 2, [[1, 2]] * 2,
                      [[1, 2, 3], [1, 2, 3, 4]], [[1, 2, 3], [1, 2, True]], [[1, 2, 3], [1, 2, None]], [1, 2]):
            for routine in (prices.totals, prices.stage_parts, prices.cheapest_staging, prices.dearest_staging):
                with self.assertRaises(errors.InvalidCosts):
                    routine(SYSTEM, SPOTS, MARKS, costs)
        for table in (None, [1, 2], [1, 2, 3, 4], (1, 2, 3), [1, 2, False], [[1], 2, 3]):
            with self.assertRaises(errors.InvalidCosts):
                prices.price_totals(SYSTEM, [((0, 0), 3)], MARKS, table)


class Limits(unittest.TestCase):
    """12 spots, 8 marks, 60 cells, numbers of 30 digits of either sign, 24 points and 120 bounds."""

    def test_totals(self):
        for seed in range(6):
            rolls = random.Random(seed)
            system, world = helper.large_system(seed, tied=seed == 5)
            many, stages = rolls.choice([(12, 5), (7, 8), (12, 1)])
            spots = [(point, rolls.randint(-10 ** 29, 10 ** 29) - world[point]) for point in range(many)]
            shifts = sorted(rolls.sample([when(world, spot) for spot in spots] * 2, 2)
                            + [rolls.randint(-10 ** 29, 10 ** 29) for _ in range(stages)])
            marks = [(20, shift - world[20]) for shift in sorted(set(shifts))[:stages]]
            costs = [[rolls.randint(-BIG, BIG) for _ in range(len(marks) + 1)] for _ in spots]
            low, high = prices.totals(system, spots, marks, costs)
            self.assertTrue(low <= total_of(costs, staging_of(world, spots, marks)) <= high)
            *cut, rest = prices.stage_parts(system, spots, marks, costs)
            self.assertIs(cuts.shows_least(*cut, low - rest, cuts.floor_carry(*cut)), True)
            self.assertIs(cuts.shows_greatest(*cut, high - rest, cuts.top_carry(*cut)), True)
            for end, routine in ((low, prices.cheapest_staging), (high, prices.dearest_staging)):
                row = routine(system, spots, marks, costs)
                self.assertEqual(total_of(costs, row), end)
                found = prices.staging_world(system, spots, marks, row)
                self.assertTrue(helper.is_world(system, found))
                self.assertEqual(prices.staging_in(system, found, spots, marks), row)

    def test_long_spans(self):
        for seed in range(4):
            rolls = random.Random(seed)
            world = (0,) + tuple(rolls.randint(-BIG // 4, BIG // 4) for _ in range(23))
            pairs = [(i, (i + 1) % 24) for i in range(24)] + [tuple(rolls.sample(range(24), 2)) for _ in range(94)]
            told = [(i, j, world[i] - world[j] + rolls.randint(0, 900)) for i, j in pairs]
            told += [(21, 20, world[21] - world[20] + 199), (20, 21, world[20] - world[21] + 200)]
            system = (24, tuple(told))
            spots = [(point, rolls.randint(-300, 300) - world[point]) for point in range(12)]
            weights = [rolls.randint(-BIG, BIG) for _ in spots]
            first, last = (20, -world[20]), (21, 500 - world[21])
            low, high = prices.between(system, spots, weights, first, last)
            self.assertTrue(low <= between_in(world, spots, weights, first, last) <= high)


if __name__ == "__main__":
    unittest.main()
