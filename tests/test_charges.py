"""Points [41] to [45]: charges and tariffs of small systems beside all worlds of a box, and of large ones."""

import itertools
import random
import unittest

from dueanywhere import charges
from dueanywhere import errors
from dueanywhere import worlds
from tests import helper

SYSTEM = (3, ((1, 0, 10), (0, 1, 0), (2, 1, 5), (1, 2, -1)))
CHARGES = [((0, 0), (1, 0), 8, 2, 3), ((0, 0), (2, 0), 4, 1, 4)]
TWELVE = 10 ** 12 - 1


def delay_of(world, first, second):
    return world[second[0]] + second[1] - world[first[0]] - first[1]


def total_of(world, told):
    """The total by the words of point [41]."""
    found = 0
    for first, second, at, early, late in told:
        delay = delay_of(world, first, second)
        found += early * (at - delay) if delay < at else late * (delay - at)
    return found


def is_balance(system, told, value):
    """Whether value is a balance by the words of point [43]."""
    if type(value) is not tuple or len(value) != 2 or any(type(part) is not list for part in value):
        return False
    pulls, weights = value
    if len(pulls) != len(told) or len(weights) != len(system[1]):
        return False
    if not all(helper.is_int(part) for part in pulls + weights) or any(weight < 0 for weight in weights):
        return False
    if any(not -early <= pull <= late for pull, (_, _, _, early, late) in zip(pulls, told)):
        return False
    for point in range(system[0]):
        left = sum(pull for pull, part in zip(pulls, told) if part[1][0] == point)
        left += sum(weight for weight, bound in zip(weights, system[1]) if bound[0] == point)
        right = sum(pull for pull, part in zip(pulls, told) if part[0][0] == point)
        right += sum(weight for weight, bound in zip(weights, system[1]) if bound[1] == point)
        if left != right:
            return False
    return True


def told_by(system, told, value):
    pulls, weights = value
    found = sum(pull * (second[1] - first[1] - at) for pull, (first, second, at, _, _) in zip(pulls, told))
    return found - sum(weight * bound[2] for weight, bound in zip(weights, system[1]))


def is_move(system, value):
    return (type(value) is tuple and len(value) == 2 and helper.are_ascending(system[0], value[0]) and value[0] != []
            and 0 not in value[0] and helper.is_int(value[1]) and value[1] in (1, -1))


def moved(world, move):
    return tuple(moment + move[1] if point in move[0] else moment for point, moment in enumerate(world))


def some_spot(rolls, system, reach=3):
    return (rolls.randrange(system[0]), rolls.randint(-reach, reach))


def some_charges(rolls, system, most=5):
    return [(some_spot(rolls, system), some_spot(rolls, system), rolls.randint(-4, 4), rolls.choice([0, 1, 2, 5]),
             rolls.choice([0, 0, 1, 3])) for _ in range(rolls.randint(0, most))]


def asked(seed, many, points=3, reach=3):
    """Tuples (system, charges, worlds) of boxed systems with worlds."""
    rolls = random.Random(seed)
    found = []
    for system in helper.some_systems(seed, many, points, 6, reach):
        system = helper.boxed(system, reach)
        told = helper.box_worlds(system, reach)
        if told:
            found.append((system, some_charges(rolls, system), told))
    return found


def comes_to(tariff, delay):
    """What a tariff comes to by the words of point [45]."""
    _, base, steps = tariff
    found = base
    for begin, amount in steps:
        if begin <= delay:
            found = amount
    return found


def some_tariff(rolls, system):
    begins = sorted(rolls.sample(range(-6, 7), rolls.randint(0, 3)))
    base, *amounts = sorted(rolls.sample(range(-9, 10), len(begins) + 1))
    return (some_spot(rolls, system), base, tuple(zip(begins, amounts)))


class Examples(unittest.TestCase):
    def test_all_of_them(self):
        told = [charges.total(SYSTEM, CHARGES, (0, 3, 4)), charges.total(SYSTEM, CHARGES, (0, 8, 9)),
                charges.least_total(SYSTEM, CHARGES), charges.better_move(SYSTEM, CHARGES, (0, 3, 4))]
        self.assertEqual(told, [10, 20, 10, None])
        told = [charges.balance_tells(SYSTEM, CHARGES, ([-2, 2], [0, 0, 0, 2])),
                [charges.least_with(SYSTEM, CHARGES, (0, 0), (1, 0), delay) for delay in [2, 3, 4, 11]]]
        self.assertEqual(told, [10, [12, 10, 12, None]])
        told = charges.rising_range(SYSTEM, (0, 0), [((1, 0), 0, ((1, 5), (9, 7))), ((2, 0), -1, ((3, 0),))])
        self.assertEqual(told, (-1, 7))


class AllWorlds(unittest.TestCase):
    def test_best_worlds(self):
        seen = {True: 0, False: 0}
        for system, told, found in asked(1, 350):
            totals = [total_of(world, told) for world in found]
            least = min(totals)
            self.assertEqual(charges.least_total(system, told), least)
            best = [world for world, total in zip(found, totals) if total == least]
            self.assertIn(charges.best_world(system, told), best)
            kept = charges.best_system(system, told)
            self.assertTrue(helper.is_system(kept))
            self.assertEqual(kept[0], system[0])
            self.assertEqual(helper.box_worlds(kept, 4), best)
            for world, total in list(zip(found, totals))[::4]:
                self.assertEqual(charges.total(system, told, world), total)
                self.assertIs(charges.is_best(system, told, world), total == least)
                self.assert_move(system, told, world, found, total, least)
                seen[total == least] += 1
        self.assertGreater(min(seen.values()), 100)

    def assert_move(self, system, told, world, found, total, least):
        """A world is best exactly if no move betters it, whichever moves are tried."""
        move = charges.better_move(system, told, world)
        self.assertEqual(move is None, total == least)
        points = range(1, system[0])
        moves = [(list(row), way) for many in points for row in itertools.combinations(points, many) for way in (1, -1)]
        better = [part for part in moves if moved(world, part) in found and total_of(moved(world, part), told) < total]
        self.assertEqual(better == [], move is None)
        if move is not None:
            self.assertTrue(is_move(system, move))
            self.assertIn(move, better)

    def test_balances(self):
        rolls = random.Random(2)
        for system, told, found in asked(3, 350):
            least = min(total_of(world, told) for world in found)
            right = charges.balance(system, told)
            self.assertTrue(is_balance(system, told, right))
            self.assertEqual(told_by(system, told, right), least)
            self.assertEqual(charges.balance_tells(system, told, right), least)
            self.assert_bent(system, told, right, least, rolls)

    def assert_bent(self, system, told, right, least, rolls):
        """Each integer of a balance bent by one: no balance, or one that tells no more than the least total."""
        for part, at, way in itertools.product((0, 1), range(max(map(len, right))), (1, -1)):
            if at < len(right[part]):
                bent = ([*right[0]], [*right[1]])
                bent[part][at] += way
                self.assert_told(system, told, bent, least)
        for _ in range(4):
            pulls = [rolls.randint(-early, late) for _, _, _, early, late in told]
            self.assert_told(system, told, (pulls, [rolls.randint(0, 2) for _ in system[1]]), least)

    def assert_told(self, system, told, value, least):
        number = charges.balance_tells(system, told, value)
        if is_balance(system, told, value):
            self.assertEqual(number, told_by(system, told, value))
            self.assertLessEqual(number, least)
        else:
            self.assertIsNone(number)

    def test_balances_along_rings(self):
        # A weight along a ring of bounds keeps a balance even, and tells less by the sum of the ring.
        for way in (0, 1, 5):
            value = ([-2, 2], [way, way, 0, 2])
            self.assertEqual(charges.balance_tells(SYSTEM, CHARGES, value), 10 - 10 * way)

    def test_totals_by_delays(self):
        rolls = random.Random(4)
        seen = {True: 0, False: 0}
        for system, told, found in asked(5, 250):
            first, second = some_spot(rolls, system), some_spot(rolls, system)
            least = {}
            for world in found:
                delay = delay_of(world, first, second)
                least[delay] = min(total_of(world, told), least.get(delay, 10 ** 9))
            row = []
            for delay in range(-14, 15):
                number = charges.least_with(system, told, first, second, delay)
                self.assertEqual(number, least.get(delay))
                seen[number is None] += 1
                row += [] if number is None else [number]
            self.assertEqual(min(row), charges.least_total(system, told))
            for one, other, third in zip(row, row[1:], row[2:]):
                self.assertLessEqual(2 * other, one + third)
        self.assertGreater(min(seen.values()), 300)

    def test_systems_without_a_box(self):
        for system in helper.with_worlds(6, 200, 3, 3, 2):
            told = some_charges(random.Random(len(system[1])), system)
            least = min(total_of(world, told) for world in helper.box_worlds(system, 14))
            self.assertEqual(charges.least_total(system, told), least)
            world = charges.best_world(system, told)
            self.assertTrue(helper.is_world(system, world))
            self.assertEqual(total_of(world, told), least)
            self.assertEqual(charges.balance_tells(system, told, charges.balance(system, told)), least)

    def test_tariffs(self):
        rolls = random.Random(7)
        for system, _, found in asked(8, 250):
            told, held = [some_tariff(rolls, system) for _ in range(rolls.randint(0, 4))], some_spot(rolls, system)
            sums = [sum(comes_to(part, delay_of(world, held, part[0])) for part in told) for world in found]
            self.assertEqual(charges.rising_range(system, held, told), (min(sums), max(sums)))
            self.assert_worlds(system, held, told)

    def assert_worlds(self, system, held, told):
        ends = charges.rising_range(system, held, told)
        pair = charges.rising_worlds(system, held, told)
        self.assertIs(type(pair), tuple)
        for end, world in zip(ends, pair, strict=True):
            self.assertTrue(helper.is_world(system, world))
            self.assertEqual(sum(comes_to(part, delay_of(world, held, part[0])) for part in told), end)

    def test_tariffs_without_a_box(self):
        rolls = random.Random(9)
        for system in helper.with_worlds(10, 200, 3, 3, 2):
            told, held = [some_tariff(rolls, system) for _ in range(rolls.randint(0, 4))], some_spot(rolls, system, 2)
            found = helper.box_worlds(system, 15)
            sums = [sum(comes_to(part, delay_of(world, held, part[0])) for part in told) for world in found]
            self.assertEqual(charges.rising_range(system, held, told), (min(sums), max(sums)))
            self.assert_worlds(system, held, told)


class Edges(unittest.TestCase):
    def test_no_charges(self):
        self.assertEqual(charges.total(SYSTEM, [], (0, 3, 4)), 0)
        self.assertEqual(charges.least_total(SYSTEM, []), 0)
        self.assertIs(charges.is_best(SYSTEM, [], (0, 3, 4)), True)
        self.assertIsNone(charges.better_move(SYSTEM, [], (0, 3, 4)))
        self.assertEqual(charges.balance(SYSTEM, [])[0], [])
        self.assertEqual(charges.balance_tells(SYSTEM, [], ([], [0, 0, 0, 0])), 0)
        self.assertEqual(charges.rising_range(SYSTEM, (0, 0), []), (0, 0))
        self.assertEqual(charges.least_total((1, ()), []), 0)
        self.assertEqual(charges.best_world((1, ()), []), (0,))

    def test_early_or_late_0(self):
        for early, late in ((0, 3), (3, 0), (0, 0), (3, 3)):
            told = [((0, 0), (1, 0), 8, early, late)]
            for moment in (0, 7, 8, 9, 10):
                right = (8 - moment) * early if moment < 8 else (moment - 8) * late
                self.assertEqual(charges.total(SYSTEM, told, (0, moment, moment + 1)), right)
                self.assertIs(charges.is_best(SYSTEM, told, (0, moment, moment + 1)), right == 0)
        # Two that pull apart; the cheaper one gives way.
        told = [((0, 0), (1, 0), 8, 3, 0), ((0, 0), (1, 0), 2, 9, 2)]
        self.assertEqual(charges.least_total(SYSTEM, told), 12)
        self.assertEqual(charges.best_world(SYSTEM, told)[1], 8)

    def test_points_that_no_bounds_join(self):
        told = [((0, 0), (1, 0), 0, 2, 2), ((0, 0), (1, 0), 9, 3, 1), ((2, 0), (3, 0), 0, 2, 2), ((2, 0), (3, 0), 5, 1, 3)]
        for row in (told, told[::-1], told[2:] + told[:2]):
            for system in ((4, ()), (5, ()), (4, ((1, 0, 99), (3, 2, 99)))):
                self.assertEqual(charges.least_total(system, row), 18 + 5)
                value = charges.balance(system, row)
                self.assertTrue(is_balance(system, row, value))
                self.assertEqual(told_by(system, row, value), 23)
                world = charges.best_world(system, row)
                self.assertEqual([world[1], world[3] - world[2]], [9, 0])

    def test_both_spots_of_one_point(self):
        told = [((1, 2), (1, 9), 5, 4, 3), ((2, 2), (2, 9), 9, 4, 3), ((0, 0), (0, 5), 5, 7, 7)]
        self.assertEqual(charges.least_total(SYSTEM, told), 6 + 8)
        pulls, _ = charges.balance(SYSTEM, told)
        self.assertEqual(pulls[:2], [3, -4])
        for pull, number in ((-7, 14), (0, 14), (7, 14), (8, None), (-8, None)):
            self.assertEqual(charges.balance_tells(SYSTEM, told, ([3, -4, pull], [0] * 4)), number)
        self.assertEqual(charges.balance_tells(SYSTEM, told, ([2, -1, 0], [0] * 4)), 6)
        self.assertEqual(charges.best_system(SYSTEM, told)[0], 3)
        self.assertIs(charges.is_best(SYSTEM, told, (0, 3, 4)), True)

    def test_values_that_are_no_balances(self):
        right = ([-2, 2], [0, 0, 0, 2])
        broken = (3, SYSTEM[1] + ((0, 1, -11),))
        self.assertEqual(charges.balance_tells(broken, CHARGES, (right[0], right[1] + [0])), 10)
        for value in ([*right], (right[0],), right + ([],), ((-2, 2), [0, 0, 0, 2]), ([-2, 2], (0, 0, 0, 2)), None, "", 7,
                      ([-2], [0, 0, 0, 2]), ([-2, 2], [0, 0, 2]), ([-2, 2, 0], [0, 0, 0, 2]), ([-2, True], [0, 0, 0, 2]),
                      ([-2, 2], [0, 0, 0, 2, 0]), ([-2, 2], [False, 0, 0, 2]), ([-2, None], [0, 0, 0, 2]),
                      ([-3, 3], [0, 0, 0, 3]), ([2, -2], [0, 0, 0, -2]), ([0, 0], [0, 0, 0, -1]), ([], [])):
            self.assertIsNone(charges.balance_tells(SYSTEM, CHARGES, value), value)

    def test_delays_of_one_point(self):
        self.assertEqual(charges.least_with(SYSTEM, CHARGES, (1, 2), (1, 9), 7), 10)
        self.assertIsNone(charges.least_with(SYSTEM, CHARGES, (1, 2), (1, 9), 8))
        with self.assertRaises(errors.NoWorld):
            charges.least_with((3, SYSTEM[1] + ((0, 1, -11),)), CHARGES, (1, 2), (1, 9), 8)
        self.assertIsNone(charges.least_with(SYSTEM, CHARGES, (0, 0), (1, 0), -1))

    def test_tariffs_without_steps_or_ends(self):
        loose = (3, ((1, 0, 5),))
        self.assertEqual(charges.rising_range(loose, (0, 0), [((1, 0), 4, ())]), (4, 4))
        self.assertEqual(charges.rising_range(loose, (0, 0), [((2, 0), 4, ())]), (4, 4))
        self.assertEqual(charges.rising_range(loose, (0, 0), [((2, 0), 4, ((-99, 5), (99, 6)))]), (4, 6))
        self.assertEqual(charges.rising_range(loose, (0, 0), [((1, 0), 4, ((-99, 5), (5, 6), (6, 7)))]), (4, 6))
        self.assertEqual(charges.rising_range(loose, (1, 0), [((0, 0), 4, ((-5, 5), (6, 7)))]), (5, 7))
        self.assertEqual(charges.rising_range(loose, (1, 3), [((1, 5), 4, ((2, 5), (3, 7)))]), (5, 5))
        self.assertEqual(charges.rising_range(loose, (1, 3), [((1, 5), 4, ((3, 5),))]), (4, 4))
        for told in ([((2, 0), 4, ((-99, 5), (99, 6))), ((1, 0), 0, ((0, 1),))], [((2, 0), 1, ())]):
            for held in ((0, 0), (1, 0), (2, 0)):
                AllWorlds().assert_worlds(loose, held, told)

    def test_wrong_charges_and_tariffs(self):
        for told in (None, (CHARGES[0],), [CHARGES[0][:4]], [CHARGES[0] + (0,)], [[*CHARGES[0]]],
                     [((0, 0), (1, 0), 8, -1, 3)], [((0, 0), (1, 0), 8, 2, -1)], [((0, 0), (1, 0), None, 2, 3)],
                     [((0, 0), (1, 0), 8, True, 3)], [((0, 0), (3, 0), 8, 2, 3)], [((0,), (1, 0), 8, 2, 3)]):
            for call in (lambda: charges.least_total(SYSTEM, told), lambda: charges.balance_tells(SYSTEM, told, None),
                         lambda: charges.total(SYSTEM, told, None)):
                with self.assertRaises(errors.InvalidCharges):
                    call()
        for told in (None, (), [((1, 0), 0)], [((1, 0), 0, [(1, 5)])], [((1, 0), 0, ((1, 5), (1, 7)))],
                     [((1, 0), 0, ((2, 5), (1, 7)))], [((1, 0), 0, ((1, 5), (2, 5)))], [((1, 0), 0, ((1, 0),))],
                     [((1, 0), 0, ((1, 5), (2, 4)))], [((1, 0), 0, ((1, True),))], [((1, 0), 0, ((1, 5, 6),))],
                     [((1, 0), None, ())], [((1, 0), 0, ([1, 5],))], [((3, 0), 0, ())], [((1, 0), 6, ((1, 5), (2, 7)))]):
            for routine in (charges.rising_range, charges.rising_worlds):
                with self.assertRaises(errors.InvalidTariffs):
                    routine(SYSTEM, (0, 0), told)


class Limits(unittest.TestCase):
    """24 charges, 24 tariffs of 12 steps, numbers of 12 digits, 24 points, 120 bounds, early and late to 10 ** 6."""

    def some_system(self, rolls, size):
        world = (0,) + tuple(rolls.randint(-size, size) for _ in range(23))
        pairs = [(i, (i + 1) % 24) for i in range(24)] + [tuple(rolls.sample(range(24), 2)) for _ in range(96)]
        return (24, tuple((i, j, world[i] - world[j] + rolls.randint(0, size)) for i, j in pairs)), world

    def test_charges(self):
        for seed in range(12):
            rolls = random.Random(seed)
            size = rolls.choice([4, 1000, TWELVE // 4])
            system, world = self.some_system(rolls, size)
            told = [((rolls.randrange(24), rolls.randint(-size, size)), (rolls.randrange(24), rolls.randint(-size, size)),
                     rolls.randint(-size, size), rolls.randint(0, 10 ** 6), rolls.randint(0, 10 ** 6)) for _ in range(24)]
            least = charges.least_total(system, told)
            value = charges.balance(system, told)
            self.assertTrue(is_balance(system, told, value))
            self.assertEqual(told_by(system, told, value), least)
            best = charges.best_world(system, told)
            self.assertTrue(helper.is_world(system, best))
            self.assertEqual(total_of(best, told), least)
            self.assertIs(charges.is_best(system, told, best), True)
            self.assertIs(worlds.is_world(charges.best_system(system, told), best), True)
            self.assert_bettered(system, told, world, least)

    def assert_bettered(self, system, told, world, least):
        for _ in range(5):
            move = charges.better_move(system, told, world)
            self.assertEqual(move is None, total_of(world, told) == least)
            if move is None:
                return
            there = moved(world, move)
            self.assertTrue(is_move(system, move) and helper.is_world(system, there))
            self.assertLess(total_of(there, told), total_of(world, told))
            world = there

    def test_many_alike_ways(self):
        # Costs of 0 and little room along some ways: what is carried must not creep by ones.
        bounds = [(i, j, 0) for i, j in itertools.permutations(range(12), 2) if (i + j) % 3]
        system = (12, tuple(bounds[:120]))
        told = []
        for k in range(24):
            told.append(((k % 12, 0), ((5 * k + 1) % 12, 0), (-1) ** k * (k // 2), 1 if k % 3 else 10 ** 6, 10 ** 6))
        least = charges.least_total(system, told)
        self.assertEqual(charges.balance_tells(system, told, charges.balance(system, told)), least)
        self.assertEqual(total_of(charges.best_world(system, told), told), least)

    def test_tariffs(self):
        for seed in range(6):
            rolls = random.Random(seed)
            system, world = self.some_system(rolls, TWELVE // 4)
            told, held = [], (7, rolls.randint(-TWELVE, TWELVE))
            for point in range(24):
                begins = sorted(rolls.randint(-TWELVE, TWELVE) for _ in range(12))
                base, *amounts = sorted(rolls.randint(-TWELVE, TWELVE) for _ in range(13))
                told.append(((point, rolls.randint(-TWELVE, TWELVE)), base, tuple(zip(begins, amounts))))
            low, high = charges.rising_range(system, held, told)
            here = sum(comes_to(part, delay_of(world, held, part[0])) for part in told)
            self.assertTrue(low <= here <= high)
            AllWorlds().assert_worlds(system, held, told)


if __name__ == "__main__":
    unittest.main()
