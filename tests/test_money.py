"""Points [31] to [35]: bills, payments and transfers of small systems beside all worlds of a box, and of large ones."""

import itertools
import random
import unittest

from dueanywhere import bounds
from dueanywhere import cuts
from dueanywhere import errors
from dueanywhere import money
from dueanywhere import pasts
from tests import helper
from tests.helper import BIG

SYSTEM = (2, ((1, 0, 90), (0, 1, -30)))
BILLS, PAYMENTS = [((0, 0), 70), ((0, 10), 60)], [((0, 100), 60), ((1, 20), 30), ((1, 60), 40)]


def when(world, spot):
    return world[spot[0]] + spot[1]


def ahead(world, row, at):
    """The sum of the amounts of those of a row that are ahead of a spot."""
    return sum(amount for spot, amount in row if when(world, spot) < when(world, at))


def clearing_of(world, bills, payments, index):
    """The clearing by the words of point [32]."""
    debt = sum(amount for _, amount in bills[:index + 1])
    start = when(world, bills[index][0])
    for moment in sorted([start] + [when(world, spot) for spot, _ in payments]):
        if moment >= start and sum(amount for spot, amount in payments if when(world, spot) <= moment) >= debt:
            return moment
    return None


def is_cleared(world, bills, payments, index, at):
    told = clearing_of(world, bills, payments, index)
    return told is not None and told < when(world, at)


def shares_of(world, bills, payments):
    """The shares by the words of point [34], laid one by one."""
    order = sorted(range(len(payments)), key=lambda index: (when(world, payments[index][0]), index))
    payers = [index for index in order for _ in range(payments[index][1])]
    owed = [index for index, (_, amount) in enumerate(bills) for _ in range(amount)]
    found = [[0] * len(bills) for _ in payments]
    for payment, bill in zip(payers, owed):
        found[payment][bill] += 1
    return found


def flying(world, transfers, at):
    return sum(amount for leaving, arriving, amount in transfers
               if when(world, leaving) < when(world, at) <= when(world, arriving))


def word_of(truths):
    return "sure" if all(truths) else "maybe" if any(truths) else "never"


def ends_of(told):
    return (min(told), max(told))


def some_spot(rolls, system, reach):
    return (rolls.randrange(system[0]), rolls.randint(-reach, reach))


def some_money(rolls, system, most, reach=3):
    return [(some_spot(rolls, system, reach), rolls.randint(1, 3)) for _ in range(rolls.randint(0, most))]


def asked(seed, many, points=3, reach=3):
    """Tuples (system, bills, payments, at, worlds) of boxed systems with worlds."""
    rolls = random.Random(seed)
    found = []
    for system in helper.some_systems(seed, many, points, 6, reach):
        system = helper.boxed(system, reach)
        told = helper.box_worlds(system, reach)
        if told:
            found.append((system, some_money(rolls, system, 3), some_money(rolls, system, 5),
                          some_spot(rolls, system, reach), told))
    return found


class Examples(unittest.TestCase):
    def test_all_of_them(self):
        at = (0, 105)
        told = [money.paid(SYSTEM, PAYMENTS, at), money.arrears(SYSTEM, BILLS, PAYMENTS, at),
                money.cleared(SYSTEM, BILLS, PAYMENTS, 0, at)]
        self.assertEqual(told, [(60, 130), (0, 70), "maybe"])
        told = [money.clearing(SYSTEM, BILLS, PAYMENTS, 0, (0, 0)), money.clearing(SYSTEM, BILLS, PAYMENTS, 1, (0, 0)),
                money.clearing_in(SYSTEM, (0, 30), BILLS, PAYMENTS, 0)]
        self.assertEqual(told, [(90, 110), (100, 150), 90])
        told = [money.late(SYSTEM, BILLS, PAYMENTS, [at, (0, 90)]), money.shares(SYSTEM, BILLS, PAYMENTS, 0, 0),
                money.shares_in(SYSTEM, (0, 90), BILLS, PAYMENTS)]
        self.assertEqual(told, [["maybe", "sure"], [0, 40, 60], [[60, 0], [10, 20], [0, 40]]])
        self.assertEqual(money.in_flight(SYSTEM, [((0, 100), (1, 80), 7)], (0, 120)), (0, 7))


class AllWorlds(unittest.TestCase):
    def test_what_is_paid_and_owed(self):
        for system, bills, payments, at, found in asked(1, 300):
            self.assertEqual(money.paid(system, payments, at), ends_of([ahead(world, payments, at) for world in found]))
            told = [ahead(world, bills, at) - ahead(world, payments, at) for world in found]
            self.assertEqual(money.arrears(system, bills, payments, at), ends_of(told))
            parts = money.arrears_parts(system, bills, payments, at)
            spots = [spot for spot, _ in bills + payments]
            self.assertEqual(parts[0], [amount for _, amount in bills] + [-amount for _, amount in payments])
            self.assertEqual(parts[1:], pasts.past_items(system, spots, at))
            self.assertEqual(cuts.all_sums(*parts), sorted(set(told)))

    def test_clearings(self):
        seen = {"sure": 0, "maybe": 0, "never": 0, None: 0}
        for system, bills, payments, at, found in asked(2, 400):
            rolls = random.Random(len(found))
            dues = [some_spot(rolls, system, 3) for _ in bills]
            late = []
            for index in range(len(bills)):
                told = [clearing_of(world, bills, payments, index) for world in found]
                for world, moment in list(zip(found, told))[::5]:
                    self.assertEqual(money.clearing_in(system, world, bills, payments, index), moment)
                right = None
                if None not in told:
                    right = ends_of([moment - when(world, at) for world, moment in zip(found, told)])
                seen[None] += right is None
                self.assertEqual(money.clearing(system, bills, payments, index, at), right)
                word = word_of([is_cleared(world, bills, payments, index, at) for world in found])
                seen[word] += 1
                self.assertEqual(money.cleared(system, bills, payments, index, at), word)
                late.append(word_of([not is_cleared(world, bills, payments, index, dues[index]) for world in found]))
            self.assertEqual(money.late(system, bills, payments, dues), late)
        self.assertGreater(min(seen.values()), 20)

    def test_shares(self):
        for system, bills, payments, _, found in asked(3, 250):
            told = [shares_of(world, bills, payments) for world in found]
            for world, rows in list(zip(found, told))[::5]:
                self.assertEqual(money.shares_in(system, world, bills, payments), rows)
            for payment, index in itertools.product(range(len(payments)), range(len(bills))):
                right = sorted({rows[payment][index] for rows in told})
                self.assertEqual(money.shares(system, bills, payments, payment, index), right)

    def test_transfers(self):
        seen = {True: 0, False: 0}
        for system, _, _, at, found in asked(4, 400):
            rolls = random.Random(len(found))
            transfers = []
            for _ in range(rolls.randint(0, 4)):
                leaving, arriving = some_spot(rolls, system, 3), some_spot(rolls, system, 7)
                transfers.append((leaving, arriving, rolls.randint(1, 4)))
            right = [part for part in transfers if all(when(world, part[0]) <= when(world, part[1]) for world in found)]
            seen[right == transfers] += 1
            if right != transfers:
                with self.assertRaises(errors.InvalidTransfers):
                    money.in_flight(system, transfers, at)
            self.assertEqual(money.in_flight(system, right, at),
                             ends_of([flying(world, right, at) for world in found]))
        self.assertGreater(min(seen.values()), 30)

    def test_ends_that_there_are_not(self):
        # What is no end grows with the box in which worlds are tried; all others stay.
        rolls = random.Random(5)
        seen = {True: 0, False: 0}
        for system in helper.with_worlds(6, 160, 3, 3, 2):
            bills, payments = some_money(rolls, system, 2, 2), some_money(rolls, system, 4, 2)
            held = some_spot(rolls, system, 2)
            boxes = [helper.box_worlds(system, reach) for reach in (9, 12)]
            for index in range(len(bills)):
                ends = []
                for found in boxes:
                    told = [(clearing_of(world, bills, payments, index), when(world, held)) for world in found]
                    ends.append(None if told[0][0] is None else ends_of([moment - start for moment, start in told]))
                near, far = ends
                if near is not None:
                    near = tuple(None if one != other else one for one, other in zip(near, far))
                    seen[None in near] += 1
                self.assertEqual(money.clearing(system, bills, payments, index, held), near)
                word = word_of([is_cleared(world, bills, payments, index, held) for world in boxes[0]])
                self.assertEqual(money.cleared(system, bills, payments, index, held), word)
        self.assertGreater(min(seen.values()), 30)


class Edges(unittest.TestCase):
    def test_nothing_owed_and_nothing_paid(self):
        self.assertEqual(money.paid(SYSTEM, [], (0, 0)), (0, 0))
        self.assertEqual(money.arrears(SYSTEM, [], [], (0, 0)), (0, 0))
        self.assertEqual(money.arrears_parts(SYSTEM, [], [], (0, 0)), ([], [], [], []))
        self.assertEqual(money.late(SYSTEM, [], PAYMENTS, []), [])
        self.assertEqual(money.late(SYSTEM, BILLS, [], [(0, BIG), (1, BIG)]), ["sure", "sure"])
        self.assertIsNone(money.clearing(SYSTEM, BILLS, [], 0, (0, 0)))
        self.assertIsNone(money.clearing_in(SYSTEM, (0, 40), BILLS, [], 1))
        self.assertEqual(money.cleared(SYSTEM, BILLS, [], 0, (0, BIG)), "never")
        self.assertEqual(money.shares_in(SYSTEM, (0, 40), [], PAYMENTS), [[], [], []])
        self.assertEqual(money.shares_in(SYSTEM, (0, 40), BILLS, []), [])
        self.assertEqual(money.in_flight(SYSTEM, [], (0, 0)), (0, 0))

    def test_debts_that_payments_do_not_reach(self):
        payments = [((0, 5), 69)]
        self.assertIsNone(money.clearing(SYSTEM, BILLS, payments, 0, (0, 0)))
        self.assertEqual(money.clearing(SYSTEM, BILLS, [((0, 5), 70)], 0, (0, 0)), (5, 5))
        self.assertIsNone(money.clearing(SYSTEM, BILLS, [((0, 5), 129)], 1, (0, 0)))
        self.assertEqual(money.clearing(SYSTEM, BILLS, [((0, 5), 130)], 1, (0, 0)), (10, 10))

    def test_debts_count_what_stands_ahead_in_the_list(self):
        # The second bill comes first in time; it is cleared behind the first one all the same.
        bills = [((0, 50), 7), ((0, 10), 5)]
        payments = [((0, 0), 7), ((0, 20), 5)]
        self.assertEqual(money.clearing(SYSTEM, bills, payments, 0, (0, 0)), (50, 50))
        self.assertEqual(money.clearing(SYSTEM, bills, payments, 1, (0, 0)), (20, 20))
        self.assertEqual(money.shares_in(SYSTEM, (0, 40), bills, payments), [[7, 0], [0, 5]])

    def test_money_that_waits(self):
        self.assertEqual(money.clearing(SYSTEM, [((0, 30), 5)], [((0, 10), 9)], 0, (0, 0)), (30, 30))
        self.assertEqual(money.clearing(SYSTEM, [((1, 30), 5)], [((0, 10), 9)], 0, (1, 0)), (30, 30))
        self.assertEqual(money.clearing(SYSTEM, [((1, 30), 5)], [((0, 10), 9)], 0, (0, 0)), (60, 120))
        self.assertEqual(money.arrears(SYSTEM, [((0, 30), 5)], [((0, 10), 9)], (0, 20)), (-9, -9))

    def test_one_moment(self):
        bills, payments = [((0, 10), 5)], [((0, 10), 3), ((0, 10), 2)]
        for at, word in ((10, "never"), (11, "sure")):
            self.assertEqual(money.cleared(SYSTEM, bills, payments, 0, (0, at)), word)
        self.assertEqual(money.late(SYSTEM, bills * 2, payments, [(0, 10), (0, 11)]), ["sure", "sure"])
        self.assertEqual(money.late(SYSTEM, bills, payments, [(0, 11)]), ["never"])
        self.assertEqual(money.clearing(SYSTEM, bills, payments, 0, (0, 10)), (0, 0))
        self.assertEqual(money.paid(SYSTEM, payments, (0, 10)), (0, 0))
        self.assertEqual(money.paid(SYSTEM, payments, (0, 11)), (5, 5))
        self.assertEqual(money.shares_in(SYSTEM, (0, 40), [((0, 0), 3), ((0, 0), 9)], payments), [[3, 0], [0, 2]])
        self.assertEqual(money.shares(SYSTEM, [((0, 0), 3), ((0, 0), 9)], payments, 0, 1), [0])
        self.assertEqual(money.shares(SYSTEM, [((0, 0), 3), ((0, 0), 9)], payments, 1, 0), [0])

    def test_payments_of_one_moment_go_by_their_indexes(self):
        bills = [((0, 0), 2), ((0, 0), 9)]
        for first, second in itertools.permutations([((0, 40), 3), ((1, 0), 4)]):
            told = money.shares_in(SYSTEM, (0, 40), bills, [first, second])
            self.assertEqual(told, [[2, first[1] - 2], [0, second[1]]])
        # The point 1 may be at 40 or beside it: of payments at one moment the first one goes ahead.
        near = (2, ((1, 0, 40), (0, 1, -39)))
        self.assertEqual(money.shares(near, bills, [((0, 40), 3), ((1, 0), 4)], 0, 0), [0, 2])
        self.assertEqual(money.shares(near, bills, [((0, 39), 3), ((1, 0), 4)], 0, 0), [2])
        self.assertEqual(money.shares(near, bills, [((1, 0), 4), ((0, 39), 3)], 0, 0), [0, 2])
        self.assertEqual(money.shares(near, bills, [((1, 0), 4), ((0, 40), 3)], 0, 0), [2])

    def test_clearings_without_ends(self):
        loose = (3, ((1, 0, 5),))
        bills = [((0, 0), 4)]
        self.assertEqual(money.clearing(loose, bills, [((1, 0), 4)], 0, (0, 0)), (0, 5))
        self.assertEqual(money.clearing(loose, bills, [((2, 0), 4)], 0, (0, 0)), (0, None))
        self.assertEqual(money.clearing(loose, bills, [((2, 0), 4), ((1, 2), 4)], 0, (0, 0)), (0, 7))
        self.assertEqual(money.clearing(loose, bills, [((2, 0), 4)], 0, (2, 0)), (0, None))
        self.assertEqual(money.clearing(loose, [((1, 0), 4)], [((1, 3), 4)], 0, (0, 0)), (None, 8))
        self.assertEqual(money.clearing(loose, [((2, 0), 4)], [((2, 3), 4)], 0, (2, 1)), (2, 2))
        self.assertEqual(money.clearing(loose, [((2, 0), 4)], [((1, 3), 4)], 0, (0, 0)), (None, None))

    def test_an_arriving_at_the_moment_of_its_leaving_is_never_in_flight(self):
        self.assertEqual(money.in_flight(SYSTEM, [((1, 5), (1, 5), 9)], (0, 70)), (0, 0))
        self.assertEqual(money.in_flight(SYSTEM, [((0, 5), (0, 6), 9)], (0, 6)), (9, 9))
        self.assertEqual(money.in_flight(SYSTEM, [((0, 5), (0, 6), 9)], (0, 5)), (0, 0))
        self.assertEqual(money.in_flight(SYSTEM, [((0, 5), (0, 6), 9)], (0, 7)), (0, 0))
        self.assertEqual(money.in_flight(SYSTEM, [((0, 30), (1, 0), 9)] * 2, (0, 60)), (0, 18))

    def test_an_arriving_that_can_be_earlier(self):
        for transfer in (((0, 31), (1, 0), 9), ((1, 0), (0, 89), 9), ((1, 5), (1, 4), 9), ((0, 0), (0, -1), 1)):
            with self.assertRaises(errors.InvalidTransfers):
                money.in_flight(SYSTEM, [transfer], (0, 0))
            with self.assertRaises(errors.InvalidSpots):
                money.in_flight(SYSTEM, [transfer], None)
            with self.assertRaises(errors.NoWorld):
                money.in_flight((2, SYSTEM[1] + ((1, 0, 20),)), [transfer], (0, 0))

    def test_too_many(self):
        system = (24, ())
        payments = [((point, 0), 1) for point in range(12)]
        self.assertEqual(money.shares(system, [((0, 0), 3)], payments[:11], 0, 0), [0, 1])
        with self.assertRaises(errors.TooMany):
            money.shares(system, [((0, 0), 3)], payments, 0, 0)
        # All sums are alike, but the sets are not: it is these that are counted.
        with self.assertRaises(errors.TooMany):
            money.shares(system, [((0, 0), 1)], payments, 11, 0)

    def test_as_many_dues_as_bills(self):
        for dues in ([(0, 1)], [(0, 1)] * 3, [], ((0, 1), (0, 1)), [(0, 1), None], None):
            with self.assertRaises(errors.InvalidSpots):
                money.late(SYSTEM, BILLS, PAYMENTS, dues)

    def test_amounts_below_1(self):
        for row in ([((0, 0), 0)], [((0, 0), -1)], [((0, 0), True)], [((0, 0), 1), ((0, 0), 0)]):
            for call in (lambda: money.paid(SYSTEM, row, (0, 0)), lambda: money.arrears(SYSTEM, row, [], (0, 0)),
                         lambda: money.arrears(SYSTEM, [], row, (0, 0)),
                         lambda: money.shares_in(SYSTEM, (0, 40), row, [])):
                with self.assertRaises(errors.InvalidMoney):
                    call()
        with self.assertRaises(errors.InvalidTransfers):
            money.in_flight(SYSTEM, [((0, 0), (0, 0), 0)], (0, 0))


class Limits(unittest.TestCase):
    """24 bills and payments together, 12 transfers, numbers of 30 digits of either sign, 24 points and 120 bounds."""

    def setUp(self):
        self.told = []
        for seed in range(5):
            rolls = random.Random(seed)
            system, world = helper.large_system(seed, tied=seed == 4)
            rows = []
            for point in range(24):
                shift = rolls.choice([0, 1, -1, rolls.randint(-10 ** 29, 10 ** 29)]) - world[point]
                rows.append(((point, shift), rolls.randint(1, BIG)))
            self.told.append((system, world, rows[:8], rows[8:]))

    def test_ends_come_in_worlds(self):
        for system, world, bills, payments in self.told:
            at = (5, -world[5])
            low, high = money.arrears(system, bills, payments, at)
            here = ahead(world, bills, at) - ahead(world, payments, at)
            self.assertTrue(low <= here <= high)
            parts = money.arrears_parts(system, bills, payments, at)
            spots = [spot for spot, _ in bills + payments]
            for end, past in ((low, cuts.least_sets(*parts)[0]), (high, cuts.greatest_sets(*parts)[0])):
                found = pasts.past_world(system, spots, at, past)
                self.assertEqual(ahead(found, bills, at) - ahead(found, payments, at), end)
            self.assertIs(cuts.shows_least(*parts, low, cuts.floor_carry(*parts)), True)
            self.assertIs(cuts.shows_greatest(*parts, high, cuts.top_carry(*parts)), True)
            low, high = money.paid(system, bills + payments, at)
            self.assertTrue(low <= ahead(world, bills + payments, at) <= high)

    def test_clearings_and_shares(self):
        for system, world, bills, payments in self.told:
            dues = [(3, -world[3] + 5)] * len(bills)
            late = money.late(system, bills, payments, dues)
            for index in range(len(bills)):
                here = clearing_of(world, bills, payments, index)
                self.assertEqual(money.clearing_in(system, world, bills, payments, index), here)
                ends = money.clearing(system, bills, payments, index, (7, 3))
                self.assertEqual(ends is None, here is None)
                if here is not None:
                    self.assertTrue(ends[0] <= here - world[7] - 3 <= ends[1])
                word = money.cleared(system, bills, payments, index, dues[0])
                self.assertEqual({"sure": "never", "never": "sure", "maybe": "maybe"}[word], late[index])
            rows = money.shares_in(system, world, bills, payments)
            self.assertEqual(sum(map(sum, rows)), min(sum(amount for _, amount in part) for part in (bills, payments)))

    def test_many_shares(self):
        system, world = helper.large_system(7, tied=True)
        payments = [((point, -world[point]), BIG - point) for point in range(23)]
        told = money.shares_in(system, world, [((0, 0), 2 * BIG)], payments)
        for payment in range(23):
            self.assertEqual(money.shares(system, [((0, 0), 2 * BIG)], payments, payment, 0), told[payment])

    def test_transfers(self):
        for seed in range(4):
            rolls = random.Random(seed)
            system, world = helper.large_system(seed)
            transfers = []
            for point in range(12):
                other = rolls.randrange(24)
                gap = bounds.greatest_gap(system, point, other)
                transfers.append(((point, -world[point]), (other, gap - world[point] + rolls.choice([0, 1, BIG])),
                                  rolls.randint(1, BIG)))
            at = (20, -world[20] + 1)
            low, high = money.in_flight(system, transfers, at)
            self.assertTrue(low <= flying(world, transfers, at) <= high)
            leaving, (point, _), amount = transfers[3]
            short = (leaving, (point, leaving[1] + bounds.greatest_gap(system, 3, point) - 1), amount)
            with self.assertRaises(errors.InvalidTransfers):
                money.in_flight(system, transfers[:3] + [short] + transfers[4:], at)


if __name__ == "__main__":
    unittest.main()
