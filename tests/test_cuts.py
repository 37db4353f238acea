"""Points [24] to [28]: closed sets tried one by one, clashes, sums, carries and rates."""

import itertools
import random
import unittest

from dueanywhere import cuts
from dueanywhere import errors
from tests import helper

WEIGHTS, PAIRS = [5, -3, 4, 9], [(2, 1), (3, 0), (3, 1)]
HUGE = 10 ** 40 - 1


def closed_by_trying(count, pairs, inside, outside):
    """All closed sets by the words of point [24], ascending."""
    found = []
    for taken in itertools.product((False, True), repeat=count):
        if all(taken[item] for item in inside) and not any(taken[item] for item in outside):
            if all(taken[b] for a, b in pairs if taken[a]):
                found.append([item for item in range(count) if taken[item]])
    return sorted(found)


def is_clash(pairs, inside, outside, value):
    steps = set(zip(value, value[1:]))
    return value != [] and value[0] in inside and value[-1] in outside and steps <= set(pairs)


def sum_of(weights, items):
    return sum(weights[item] for item in items)


def end_by_words(weights, found, carry, way):
    """The floor (way 1) or the top (way -1) of a carry, by the words of point [27]; found are all closed sets."""
    sure = set.intersection(*map(set, found))
    results = list(weights)
    for a, b, amount in carry:
        results[a] += way * amount
        results[b] -= way * amount
    total = 0
    for item in set.union(*map(set, found)):
        if item in sure or way * results[item] < 0:
            total += results[item]
    return total


def some_cuts(seed, many, most=6, reach=5):
    """Tuples (weights, pairs, inside, outside), with and without closed sets; the same ones in each run."""
    rolls = random.Random(seed)
    found = []
    for _ in range(many):
        count = rolls.randint(0, most)
        steps = list(itertools.permutations(range(count), 2))
        pairs = [rolls.choice(steps) for _ in range(rolls.randint(0, 9))] if steps else []
        items = list(range(count))
        inside = [rolls.choice(items) for _ in range(rolls.choice([0, 0, 1, 2]))] if items else []
        outside = [rolls.choice(items) for _ in range(rolls.choice([0, 0, 1, 2]))] if items else []
        weights = [rolls.randint(-reach, reach) for _ in items]
        kind = rolls.choice([list, tuple])
        found.append((weights, kind(pairs), kind(inside), kind(outside)))
    return found


class Examples(unittest.TestCase):
    def test_all_of_them(self):
        cut = (PAIRS, [0], [3])
        told = [cuts.closed_sets(4, *cut), cuts.least_sum(WEIGHTS, *cut), cuts.greatest_sum(WEIGHTS, *cut),
                cuts.all_sums(WEIGHTS, *cut)]
        self.assertEqual(told, [[[0], [0, 1], [0, 1, 2]], 2, 6, [2, 5, 6]])
        told = [cuts.top_of(WEIGHTS, *cut, [(2, 1, 3)]), cuts.top_of(WEIGHTS, *cut, []),
                cuts.floor_of(WEIGHTS, *cut, []), cuts.least_rate(WEIGHTS, *cut, [0, 1, 0, 0], 10)]
        self.assertEqual(told, [6, 9, 2, 4])
        self.assertEqual([cuts.greatest_sets(WEIGHTS, *cut), cuts.clash(3, [(0, 1), (1, 2)], [0], [2])],
                         [([0, 1, 2], [0, 1, 2]), [0, 1, 2]])

    def test_no_items(self):
        self.assertEqual(cuts.closed_sets(0, [], [], []), [[]])
        self.assertIsNone(cuts.clash(0, (), (), ()))
        self.assertEqual([cuts.narrowest(0, [], [], []), cuts.widest(0, [], [], [])], [[], []])
        self.assertEqual([cuts.least_sum([], [], [], []), cuts.greatest_sum([], [], [], [])], [0, 0])
        self.assertEqual([cuts.least_sets([], [], [], []), cuts.all_sums([], [], [], [])], [([], []), [0]])
        self.assertEqual([cuts.least_rate([], [], [], [], [], 0), cuts.least_rate([], [], [], [], [], 1)], [0, None])
        self.assertEqual([cuts.top_carry([], [], [], []), cuts.top_of([], [], [], [], [])], [[], 0])


class ClosedSets(unittest.TestCase):
    def test_by_trying(self):
        seen = {True: 0, False: 0}
        for weights, pairs, inside, outside in some_cuts(1, 600):
            count = len(weights)
            found = closed_by_trying(count, pairs, inside, outside)
            told = cuts.clash(count, pairs, inside, outside)
            seen[found == []] += 1
            if found:
                self.assertIsNone(told)
                self.assertEqual(cuts.closed_sets(count, pairs, inside, outside), found)
                self.assertEqual(cuts.narrowest(count, pairs, inside, outside), min(found, key=len))
                self.assertEqual(cuts.widest(count, pairs, inside, outside), max(found, key=len))
            else:
                self.assertTrue(is_clash(pairs, inside, outside, told))
                self.assertTrue(cuts.is_clash(count, pairs, inside, outside, told))
        self.assertGreater(min(seen.values()), 50)

    def test_which_are_closed(self):
        for weights, pairs, inside, outside in some_cuts(2, 150, most=4):
            count = len(weights)
            found = closed_by_trying(count, pairs, inside, outside)
            for many in range(count + 1):
                for value in itertools.permutations(range(count), many):
                    self.assertIs(cuts.is_closed(count, pairs, inside, outside, list(value)), list(value) in found)

    def test_other_values_are_no_closed_sets(self):
        for value in (None, True, (0, 1), [0, True], [False, 1], [1, 0], [0, 0], [0, 1, 2, 3], [0, 4], [-1, 0], ["0"],
                      [[0]], "01", 0, {}, [None]):
            self.assertIs(cuts.is_closed(4, [], [0], [3], value), False, value)
        self.assertIs(cuts.is_closed(4, [], [0], [3], [0, 1]), True)
        self.assertIs(cuts.is_closed(2, [], [], [], []), True)

    def test_which_are_clashes(self):
        for weights, pairs, inside, outside in some_cuts(3, 100, most=4):
            count = len(weights)
            for many in range(4):
                for value in itertools.product(range(count), repeat=many):
                    self.assertIs(cuts.is_clash(count, pairs, inside, outside, list(value)),
                                  is_clash(pairs, inside, outside, list(value)))

    def test_clashes(self):
        cut = (4, [(0, 1), (1, 0), (1, 2), (2, 3)], [0], [2, 0])
        for value in ([0], [0, 1, 2], [0, 1, 0], [0, 1, 0, 1, 0, 1, 2]):
            self.assertIs(cuts.is_clash(*cut, value), True, value)
        for value in ([], [1, 2], [0, 1], [0, 2], [0, 0], (0,), (0, 1, 2), [0, 1, 2, 3], [False], [0, True, 2], [0, 1, "2"],
                      [0, 4], [-4], None, 0, "0", [[0]], [None], [0, 1, 10 ** 39]):
            self.assertIs(cuts.is_clash(*cut, value), False, value)
        self.assertEqual(cuts.clash(1, [], [0], [0]), [0])
        self.assertIs(cuts.is_clash(2, ((0, 1),), (0,), (1,), [0, 1]), True)

    def test_without_a_closed_set(self):
        weights, pairs, inside, outside = [1, 1, 1], [(0, 1), (1, 2)], [0], [2]
        for call in (lambda: cuts.narrowest(3, pairs, inside, outside), lambda: cuts.widest(3, pairs, inside, outside),
                     lambda: cuts.closed_sets(3, pairs, inside, outside),
                     lambda: cuts.least_rate(weights, pairs, inside, outside, [0, 0, 0], 0),
                     lambda: cuts.floor_of(weights, pairs, inside, outside, [(0, 1, 1)]),
                     lambda: cuts.top_of(weights, pairs, inside, outside, [])):
            with self.assertRaises(errors.NoSet) as caught:
                call()
            self.assertEqual(caught.exception.clash, [0, 1, 2])
        for routine in (cuts.least_sum, cuts.greatest_sum, cuts.least_sets, cuts.greatest_sets, cuts.all_sums,
                        cuts.floor_carry, cuts.top_carry):
            with self.assertRaises(errors.NoSet) as caught:
                routine(weights, pairs, inside, outside)
            self.assertEqual(caught.exception.clash, [0, 1, 2])
        self.assertIs(cuts.shows_least(weights, pairs, inside, outside, -10 ** 9, []), False)
        self.assertIs(cuts.shows_greatest(weights, pairs, inside, outside, 10 ** 9, []), False)
        self.assertIs(cuts.is_closed(3, pairs, inside, outside, [0, 1, 2]), False)

    def test_wrong_carries_come_ahead_of_no_set(self):
        for carry in (None, [(1, 0, 1)], [(0, 1, 0)], ((0, 1, 1),)):
            for routine in (cuts.floor_of, cuts.top_of):
                with self.assertRaises(errors.InvalidItems):
                    routine([1, 1, 1], [(0, 1), (1, 2)], [0], [2], carry)
        with self.assertRaises(errors.InvalidWeights):
            cuts.least_rate([1, 1, 1], [(0, 1), (1, 2)], [0], [2], [0, 0, -1], 0)
        with self.assertRaises(errors.InvalidNumber):
            cuts.least_rate([1, 1, 1], [(0, 1), (1, 2)], [0], [2], [0, 0, 0], None)

    def test_too_many(self):
        self.assertEqual(len(cuts.closed_sets(10, [], [], [])), 1024)
        self.assertEqual(len(cuts.all_sums([2 ** k for k in range(10)], [], [], [])), 1024)
        for call in (lambda: cuts.closed_sets(11, [], [], []), lambda: cuts.all_sums([0] * 11, [], [], []),
                     lambda: cuts.closed_sets(60, [(k, k + 30) for k in range(30)], [], [])):
            with self.assertRaises(errors.TooMany):
                call()
        with self.assertRaises(errors.NoSet):
            cuts.closed_sets(60, [], [0], [0])

    def test_2000_are_listed_and_2001_are_not(self):
        # A chain of n items has n + 1 closed sets: 5 * 5 * 5 * 2 ** 4 are 2,000 and 3 * 23 * 29 are 2,001.
        count, pairs = chains(4, 4, 4, 1, 1, 1, 1)
        self.assertEqual(len(cuts.closed_sets(count, pairs, [], [])), 2000)
        self.assertEqual(cuts.all_sums([1] * count, pairs, [], []), list(range(17)))
        count, pairs = chains(2, 22, 28)
        for call in (lambda: cuts.closed_sets(count, pairs, [], []), lambda: cuts.all_sums([0] * count, pairs, [], [])):
            with self.assertRaises(errors.TooMany):
                call()
        self.assertEqual(len(cuts.closed_sets(count, pairs, [0], [])), 1334)


def chains(*lengths):
    """The tuple (count, pairs) of items in so many chains, each item of which brings the one ahead of it."""
    ends = list(itertools.accumulate(lengths))
    pairs = [(item, item - 1) for item in range(ends[-1]) if item and item not in ends]
    return ends[-1], pairs


class Sums(unittest.TestCase):
    def test_by_trying(self):
        for cut in some_cuts(11, 600):
            weights, pairs, inside, outside = cut
            found = closed_by_trying(len(weights), pairs, inside, outside)
            if not found:
                continue
            sums = [sum_of(weights, items) for items in found]
            self.assertEqual(cuts.all_sums(*cut), sorted(set(sums)))
            self.assertEqual([cuts.least_sum(*cut), cuts.greatest_sum(*cut)], [min(sums), max(sums)])
            for end, told in ((min(sums), cuts.least_sets(*cut)), (max(sums), cuts.greatest_sets(*cut))):
                best = [items for items, total in zip(found, sums) if total == end]
                self.assertEqual(told, (min(best, key=len), max(best, key=len)))

    def test_the_widest_and_the_narrowest_one(self):
        self.assertEqual(cuts.least_sets([0, 0, 0], [(0, 1)], [], []), ([], [0, 1, 2]))
        self.assertEqual(cuts.greatest_sets([0, 1, -1], [(1, 2)], [], []), ([], [0, 1, 2]))
        self.assertEqual(cuts.greatest_sets([3, -2, -1, 0], [(0, 1), (0, 2), (3, 0)], [], [3]), ([], [0, 1, 2]))
        self.assertEqual(cuts.least_sets([-3, 2, 1, 0], [(0, 1), (0, 2)], [2], []), ([0, 1, 2], [0, 1, 2, 3]))
        told = cuts.least_sets([1], [], [0], [])
        self.assertEqual(told, ([0], [0]))
        self.assertIsNot(told[0], told[1])

    def test_carries_that_must_be_taken_back(self):
        # A first way along (0, 2) leaves nothing for item 1, which may go there alone.
        for weights, pairs in (([4, 4, -4, -4], [(0, 2), (0, 3), (1, 2)]),
                               ([4, 4, 4, -4, -4, -4], [(0, 3), (0, 4), (1, 3), (1, 5), (2, 3)]),
                               ([7, 5, -6, -6, -1], [(0, 1), (1, 0), (1, 2), (0, 2), (2, 3), (3, 2), (0, 4)])):
            for order in itertools.permutations(range(len(weights))):
                turned = [(order[a], order[b]) for a, b in pairs]
                told = [0] * len(weights)
                for item, weight in zip(order, weights):
                    told[item] = weight
                found = closed_by_trying(len(told), turned, [], [])
                sums = [sum_of(told, items) for items in found]
                self.assertEqual(cuts.greatest_sum(told, turned, [], []), max(sums))
                carry = cuts.top_carry(told, turned, [], [])
                self.assertEqual(end_by_words(told, found, carry, -1), max(sums))


class Carries(unittest.TestCase):
    def test_by_trying(self):
        rolls = random.Random(21)
        for cut in some_cuts(22, 500):
            weights, pairs, inside, outside = cut
            found = closed_by_trying(len(weights), pairs, inside, outside)
            if not found:
                continue
            sums = [sum_of(weights, items) for items in found]
            low, high = cuts.floor_carry(*cut), cuts.top_carry(*cut)
            for carry in (low, high):
                self.assertTrue(helper.is_carry(len(weights), pairs, carry))
            self.assertEqual(end_by_words(weights, found, low, 1), min(sums))
            self.assertEqual(end_by_words(weights, found, high, -1), max(sums))
            some = sorted((a, b, rolls.randint(1, 4)) for a, b in set(pairs) if rolls.random() < 0.5)
            for carry in (low, high, some, []):
                least, most = end_by_words(weights, found, carry, 1), end_by_words(weights, found, carry, -1)
                self.assertLessEqual(least, min(sums))
                self.assertGreaterEqual(most, max(sums))
                self.assertEqual(cuts.floor_of(*cut, carry), least)
                self.assertEqual(cuts.top_of(*cut, carry), most)
                for number in (least - 1, least, least + 1, most - 1, most, most + 1):
                    self.assertIs(cuts.shows_least(*cut, number, carry), least >= number)
                    self.assertIs(cuts.shows_greatest(*cut, number, carry), most <= number)

    def test_wrong_carries(self):
        cut = (WEIGHTS, PAIRS + [(2, 1)], [0], [3])
        for value in ([], [(2, 1, 3)], [(2, 1, 3), (3, 0, 1)], [(3, 0, 1), (3, 1, 10 ** 39)]):
            self.assertIs(cuts.shows_least(*cut, -10 ** 40, value), True, value)
            self.assertIs(cuts.shows_greatest(*cut, 10 ** 40, value), True, value)
            self.assertIsInstance(cuts.floor_of(*cut, value), int)
        for value in ((), None, ((2, 1, 3),), [(2, 1)], [(2, 1, 3, 0)], [[2, 1, 3]], [(2, 1, 0)], [(2, 1, -1)],
                      [(2, 1, True)], [(2, True, 3)], [(2, 1, None)], [(1, 2, 3)], [(3, 0, 1), (2, 1, 3)], [(0, 1, 1)],
                      [(2, 1, 3), (2, 1, 4)], [(2, 1, 3), (2, 1, 3)], [(2, 2, 1)], [(4, 1, 1)], [("2", 1, 1)],
                      [((2, 1), 3)], [((2,), 1, 3)], ["213"], 0, "", True, [([2], 1, 3)]):
            self.assertIs(cuts.shows_least(*cut, -10 ** 40, value), False, value)
            self.assertIs(cuts.shows_greatest(*cut, 10 ** 40, value), False, value)
            for routine in (cuts.floor_of, cuts.top_of):
                with self.assertRaises(errors.InvalidItems, msg=value):
                    routine(*cut, value)

    def test_numbers_that_are_none(self):
        for number in (None, True, False, "2", (2,), [2]):
            self.assertIs(cuts.shows_least(WEIGHTS, PAIRS, [0], [3], number, []), False)
            self.assertIs(cuts.shows_greatest(WEIGHTS, PAIRS, [0], [3], number, []), False)
        # 1 is above the floor 0 of True's like: so True is judged as no integer, not as 1.
        self.assertIs(cuts.shows_least([1], [], [0], [], 1, []), True)
        self.assertIs(cuts.shows_least([1], [], [0], [], True, []), False)

    def test_carries_along_items_that_are_sure_or_never(self):
        # What is carried from a sure item or to it counts in its result.
        cut = ([1, -5, 2, 7], [(1, 0), (2, 1), (0, 2), (3, 0)], [1], [3])
        self.assertEqual(cuts.floor_of(*cut, [(1, 0, 4), (3, 0, 2)]), -4)
        self.assertEqual(cuts.top_of(*cut, [(1, 0, 4), (3, 0, 2)]), 0)
        cut = ([1, -5, 2], [(0, 1), (2, 1)], [1], [])
        self.assertEqual(cuts.floor_of(*cut, [(0, 1, 4)]), -9)
        self.assertEqual(cuts.top_of(*cut, [(0, 1, 4)]), 1)
        self.assertEqual(cuts.top_of(*cut, [(2, 1, 1)]), -2)


class Rates(unittest.TestCase):
    def test_by_trying(self):
        rolls = random.Random(31)
        seen = {None: 0, 0: 0, "more": 0}
        for cut in some_cuts(32, 500):
            weights, pairs, inside, outside = cut
            found = closed_by_trying(len(weights), pairs, inside, outside)
            if not found:
                continue
            rates = [rolls.choice([0, 0, 1, 2, 3]) for _ in weights]
            for goal in (rolls.randint(-9, 9), 0, 3, 40):
                told = cuts.least_rate(*cut, rates, goal)
                right = least_rate_by_trying(weights, rates, found, goal)
                self.assertEqual(told, right)
                seen[right if right in (None, 0) else "more"] += 1
        self.assertGreater(min(seen.values()), 50)

    def test_another_set_at_each_rate(self):
        # Without pairs each item joins where its sum comes above 0: the greatest sum is bent there.
        weights, rates = [-1000, -300, -60, -7, 0], [101, 37, 11, 3, 1]
        for goal in list(range(0, 60)) + [10 ** 6, 10 ** 30]:
            told = cuts.least_rate(weights, [], [], [], rates, goal)
            self.assertGreaterEqual(greatest_without_pairs(weights, rates, told), goal)
            if told:
                self.assertLess(greatest_without_pairs(weights, rates, told - 1), goal)

    def test_goals_of_either_sign(self):
        self.assertEqual(cuts.least_rate([-5], [], [0], [], [2], -5), 0)
        self.assertEqual(cuts.least_rate([-5], [], [0], [], [2], -4), 1)
        self.assertEqual(cuts.least_rate([-5], [], [0], [], [2], -3), 1)
        self.assertEqual(cuts.least_rate([-5], [], [0], [], [2], 0), 3)
        self.assertIsNone(cuts.least_rate([-5], [], [0], [], [0], -4))
        self.assertEqual(cuts.least_rate([-5], [], [], [], [1], 0), 0)
        self.assertIsNone(cuts.least_rate([9, 1], [], [], [0], [7, 0], 2))
        self.assertEqual(cuts.least_rate([9, 1], [], [], [0], [7, 0], 1), 0)
        self.assertEqual(cuts.least_rate([-HUGE], [], [], [], [1], HUGE), 2 * HUGE)


def least_rate_by_trying(weights, rates, found, goal):
    if max(sum_of(rates, items) for items in found) == 0 and max(sum_of(weights, items) for items in found) < goal:
        return None
    rate = 0
    while max(sum_of(weights, items) + rate * sum_of(rates, items) for items in found) < goal:
        rate += 1
    return rate


def greatest_without_pairs(weights, rates, rate):
    return sum(max(0, weight + rate * more) for weight, more in zip(weights, rates))


class WrongValues(unittest.TestCase):
    def test_counts_and_weights(self):
        for count in (-1, True, None, "4", [4], (4,)):
            for routine in (cuts.clash, cuts.narrowest, cuts.widest, cuts.closed_sets):
                with self.assertRaises(errors.InvalidNumber):
                    routine(count, None, None, None)
            with self.assertRaises(errors.InvalidNumber):
                cuts.is_clash(count, None, None, None, None)
        for weights in ((5, 3), None, [True], [None], ["5"], [5, [3]], 5, "", [(5,)]):
            for routine in (cuts.least_sum, cuts.greatest_sets, cuts.all_sums, cuts.top_carry):
                with self.assertRaises(errors.InvalidWeights):
                    routine(weights, None, None, None)

    def test_pairs_and_items(self):
        for pairs in (None, [(0, 0)], [(0, 4)], [(-1, 0)], [(0, True)], [(0,)], [(0, 1, 2)], [[0, 1]], [0, 1], "01", 5):
            with self.assertRaises(errors.InvalidPairs):
                cuts.clash(4, pairs, None, None)
            with self.assertRaises(errors.InvalidPairs):
                cuts.least_sum(WEIGHTS, pairs, None, None)
        for items in (None, [4], [-1], [True], ["0"], (None,), 0, "0", [[0]], [(0,)]):
            for inside, outside in ((items, None), ([], items)):
                with self.assertRaises(errors.InvalidItems):
                    cuts.narrowest(4, [], inside, outside)
                with self.assertRaises(errors.InvalidItems):
                    cuts.greatest_sum(WEIGHTS, (), inside, outside)


class Limits(unittest.TestCase):
    """60 items, 1,800 pairs and numbers of 40 digits: an end is right that a carry and a set of this sum both tell."""

    def assert_right(self, weights, pairs):
        cut = (weights, pairs, [], [])
        low, high = cuts.least_sum(*cut), cuts.greatest_sum(*cut)
        self.assertEqual(cuts.floor_of(*cut, cuts.floor_carry(*cut)), low)
        self.assertEqual(cuts.top_of(*cut, cuts.top_carry(*cut)), high)
        for end, sets in ((low, cuts.least_sets(*cut)), (high, cuts.greatest_sets(*cut))):
            for items in sets:
                self.assertTrue(cuts.is_closed(60, pairs, [], [], items))
                self.assertEqual(sum_of(weights, items), end)
            self.assertLessEqual(set(sets[0]), set(sets[1]))

    def test_many_pairs(self):
        steps = list(itertools.permutations(range(60), 2))
        for seed in range(3):
            rolls = random.Random(seed)
            weights = [rolls.randint(-HUGE, HUGE) for _ in range(60)]
            families = [rolls.sample(steps, 1800), [(a, b) for a, b in steps if a < 30 <= b],
                        [(a, b) for a, b in steps if a < 30 <= b and rolls.random() < 0.1],
                        [(a, b) for a, b in steps if a < b], [(a, b) for a, b in steps if a + 1 == b],
                        [(a, b) for a, b in steps if a < b and rolls.random() < 0.1],
                        [(a, b) for a, b in steps if b - a in (1, 2, 7, -5)]]
            for pairs in families:
                self.assert_right(weights, pairs)
                split = [abs(weight) if item < 30 else -abs(weight) for item, weight in enumerate(weights)]
                self.assert_right(split, pairs)

    def test_rates(self):
        for seed in range(5):
            rolls = random.Random(seed)
            weights = [rolls.randint(-HUGE, HUGE) for _ in range(60)]
            rates = [rolls.randint(0, 10 ** rolls.randint(0, 40)) for _ in range(60)]
            pairs = [(a, b) for a, b in itertools.permutations(range(60), 2) if a < b and rolls.random() < 0.1]
            for goal in (HUGE, 10 ** 43, 3 * 10 ** 41):
                rate = cuts.least_rate(weights, pairs, [], [], rates, goal)
                for told, more in ((True, rate), (False, rate - 1)):
                    raised = [weight + more * part for weight, part in zip(weights, rates)]
                    if more >= 0:
                        self.assertIs(cuts.greatest_sum(raised, pairs, [], []) >= goal, told)

    def test_many_closed_sets(self):
        pairs = [(a, b) for a, b in itertools.permutations(range(60), 2) if a < b]
        found = cuts.closed_sets(60, pairs, [], [])
        self.assertEqual(found, sorted(list(range(first, 60)) for first in range(61)))
        with self.assertRaises(errors.TooMany):
            cuts.closed_sets(60, pairs[:100], [59], [0])


if __name__ == "__main__":
    unittest.main()
