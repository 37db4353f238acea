"""Points [50] to [55]: looks of small systems beside all worlds of a box, tried one by one, and of large ones."""

import itertools
import random
import unittest

from dueanywhere import bounds
from dueanywhere import errors
from dueanywhere import looks
from tests import helper
from tests.helper import BIG

LOOKS = [((0, 0), (1, 0), 5, 5), ((1, 0), (2, 0), 5, 5), ((0, 0), (2, 0), 0, 8)]
TREE = ([1, 3, 4], [(0, None), (1, None), (2, None)])
SYSTEM = (3, ((1, 0, 10), (0, 1, 0), (2, 0, 10), (0, 2, 0)))
ONE, OTHER = (1, 0), (2, 0)


def delay_of(world, first, second):
    return world[second[0]] + second[1] - world[first[0]] - first[1]


def keeps_look(world, look):
    first, second, least, most = look
    return least <= delay_of(world, first, second) <= most


def looked_by(system, told):
    """The system with looks by the words of point [50]."""
    more = []
    for (p, a), (q, b), least, most in told:
        more += [(q, p, most - b + a), (p, q, b - a - least)]
    return (system[0], system[1] + tuple(more))


def lists_of(count):
    """All ascending lists of indexes of count things, shorter ones first."""
    return [list(row) for many in range(count + 1) for row in itertools.combinations(range(count), many)]


def is_tree(system, told, number, left, value):
    """Whether value is a tree for a number and looks left out, by the words of point [51]."""
    if number == 0:
        return value is None
    if type(value) is not tuple or len(value) != 2 or type(value[1]) is not list:
        return False
    ring, branches = value
    if not helper.is_bad_ring(looked_by(system, told), ring):
        return False
    used = sorted({(index - len(system[1])) // 2 for index in ring if index >= len(system[1])})
    if not used or set(used) & set(left) or len(branches) != len(used):
        return False
    for look, branch in zip(used, branches):
        if type(branch) is not tuple or len(branch) != 2 or not helper.is_int(branch[0]) or branch[0] != look:
            return False
        if not is_tree(system, told, number - 1, left + [look], branch[1]):
            return False
    return True


def not_later(world, one, other):
    return delay_of(world, one, other) >= 0


def is_settled(found, couples, one, other):
    """Whether couples settle a quarrel by the words of point [53]; found are all worlds."""
    told = {}
    for world in found:
        delays = tuple(delay_of(world, first, second) for first, second in couples)
        told.setdefault(delays, set()).add(not_later(world, one, other))
    return all(len(answers) == 1 for answers in told.values())


def is_doubt(system, couples, one, other, value):
    """Whether value is a doubt by the words of point [53]."""
    if type(value) is not tuple or len(value) != 2 or type(value[1]) is not tuple or len(value[1]) != 2:
        return False
    world, (points, way) = value
    if not helper.is_world(system, world) or not helper.are_ascending(system[0], points) or points == [] or 0 in points:
        return False
    if not helper.is_int(way) or way not in (1, -1):
        return False
    there = tuple(moment + way if point in points else moment for point, moment in enumerate(world))
    if any((first[0] in points) != (second[0] in points) for first, second in couples):
        return False
    return (helper.is_world(system, there) and delay_of(world, one, other) == 0 and delay_of(there, one, other) == -1)


def some_spot(rolls, system, reach=2):
    return (rolls.randrange(system[0]), rolls.randint(-reach, reach))


def some_looks(rolls, system, most, reach=4):
    found = []
    for _ in range(rolls.randint(0, most) if system[0] > 1 else 0):
        p, q = rolls.sample(range(system[0]), 2)
        low = rolls.randint(-reach, reach)
        found.append(((p, rolls.randint(-2, 2)), (q, rolls.randint(-2, 2)), low, low + rolls.choice([0, 0, 1, 3])))
    return found


def near_looks(rolls, system, world, most):
    """Looks that are true in a world, and nearly exact."""
    found = []
    for _ in range(rolls.randint(0, most) if system[0] > 1 else 0):
        first, second = [(point, rolls.randint(-2, 2)) for point in rolls.sample(range(system[0]), 2)]
        delay = delay_of(world, first, second)
        found.append((first, second, delay - rolls.choice([0, 1, 9]), delay + rolls.choice([0, 1, 9])))
    return found


def asked(seed, many, points=3, reach=3, bounds_most=4):
    """Tuples (rolls, system, worlds) of boxed systems with worlds."""
    rolls = random.Random(seed)
    found = []
    for system in helper.some_systems(seed, many, points, bounds_most, reach):
        system = helper.boxed(system, reach)
        told = helper.box_worlds(system, reach)
        if told:
            found.append((rolls, system, told))
    return found


class Examples(unittest.TestCase):
    def test_all_of_them(self):
        told = [looks.agree((3, ()), LOOKS), looks.distrusted((3, ()), LOOKS),
                looks.shows_distrust((3, ()), LOOKS, 1, TREE)]
        self.assertEqual(told, [False, [0], True])
        couples = [((0, 0), (1, 0))]
        told = [looks.open_answers(SYSTEM, (0, 0), ONE, ONE, OTHER), looks.settles(SYSTEM, couples, ONE, OTHER),
                looks.is_doubt(SYSTEM, couples, ONE, OTHER, ((0, 5, 5), ([2], -1)))]
        self.assertEqual(told, [(1, 10), False, True])
        offers = [((0, 0), ONE, 2), ((0, 0), OTHER, 2), (ONE, OTHER, 5)]
        self.assertEqual(looks.cheapest(SYSTEM, offers, ONE, OTHER), (4, [0, 1]))
        told = looks.forced_by((2, ()), [((0, 0), ONE, 0, 9), ((0, 0), ONE, 2, 7)], (0, 0), ONE, 8)
        self.assertEqual(told, [1])


class Agreement(unittest.TestCase):
    def test_systems_with_looks(self):
        for rolls, system, found in asked(1, 150):
            told = some_looks(rolls, system, 4)
            full = looks.with_looks(system, told)
            self.assertEqual(full, looked_by(system, told))
            right = [world for world in found if all(keeps_look(world, look) for look in told)]
            self.assertEqual(helper.box_worlds(full, 3), right)
            self.assertIs(looks.agree(system, told), right != [])

    def test_the_fewest_to_distrust(self):
        seen = {}
        for rolls, system, found in asked(2, 250):
            told = some_looks(rolls, system, 6)
            right = [left for left in lists_of(len(told))
                     if any(all(keeps_look(world, look) for k, look in enumerate(told) if k not in left)
                            for world in found)][0]
            seen[len(right)] = seen.get(len(right), 0) + 1
            self.assertEqual(looks.distrusted(system, told), right)
            tree = looks.distrust_tree(system, told)
            self.assertTrue(is_tree(system, told, len(right), [], tree))
            for number in range(5):
                same = number == len(right)
                self.assertIs(looks.shows_distrust(system, told, number, tree), same)
        self.assertTrue(all(seen[many] > 10 for many in range(4)), seen)

    def test_systems_without_a_box(self):
        for system in helper.with_worlds(3, 150, 3, 3, 2):
            told = some_looks(random.Random(len(system[1])), system, 5)
            found = helper.box_worlds(system, 14)
            right = [left for left in lists_of(len(told))
                     if any(all(keeps_look(world, look) for k, look in enumerate(told) if k not in left)
                            for world in found)][0]
            self.assertEqual(looks.distrusted(system, told), right)
            self.assertTrue(is_tree(system, told, len(right), [], looks.distrust_tree(system, told)))

    def test_looks_that_agree(self):
        self.assertEqual([looks.distrusted((3, ()), []), looks.distrust_tree((3, ()), [])], [[], None])
        self.assertEqual([looks.distrusted((3, ()), LOOKS[:2]), looks.distrust_tree((3, ()), LOOKS[:2])], [[], None])
        for value, right in ((None, True), (TREE, False), (0, False), ((), False), ([], False), (False, False)):
            self.assertIs(looks.shows_distrust((3, ()), LOOKS, 0, value), right)

    def test_the_first_one_of_the_shortest_lists(self):
        one = ((0, 0), (1, 0), 1, 1)
        two = ((0, 0), (1, 0), 2, 2)
        self.assertEqual(looks.distrusted((2, ()), [one, two]), [0])
        self.assertEqual(looks.distrusted((2, ()), [one, two, one]), [1])
        self.assertEqual(looks.distrusted((2, ()), [two, one, one]), [0])
        self.assertEqual(looks.distrusted((2, ()), [one, one, two]), [2])
        self.assertEqual(looks.distrusted((2, ()), [one, two, two, one]), [0, 3])
        self.assertEqual(looks.distrusted((2, ((1, 0, 1),)), [two, one, two, one]), [0, 2])
        self.assertEqual(looks.distrusted((2, ((1, 0, 0),)), [two, one, two, one]), [0, 1, 2, 3])

    def test_bent_trees(self):
        system = (2, ((1, 0, 9),))
        told = [((0, 0), (1, 0), 1, 1), ((0, 0), (1, 0), 2, 2), ((0, 0), (1, 0), 3, 3)]
        tree = looks.distrust_tree(system, told)
        self.assertTrue(is_tree(system, told, 2, [], tree))
        tried = 0
        for value in helper.mutants(tree):
            self.assertIs(looks.shows_distrust(system, told, 2, value), is_tree(system, told, 2, [], value), value)
            tried += 1
        self.assertGreater(tried, 300)
        for value in helper.mutants(TREE):
            self.assertIs(looks.shows_distrust((3, ()), LOOKS, 1, value), is_tree((3, ()), LOOKS, 1, [], value), value)

    def test_trees_that_are_wrong(self):
        same = [((0, 0), (1, 0), 1, 1), ((0, 0), (1, 0), 2, 2)]
        system = (2, ((1, 0, -5), (0, 1, 4)))
        # The ring [0, 1] is bad without a look; a ring with a bound of a look is right, even in such a system.
        self.assertIs(looks.shows_distrust(system, same, 1, ([0, 1], [])), False)
        self.assertIs(looks.shows_distrust(system, same, 1, ([0, 3], [(0, None)])), True)
        self.assertIs(looks.shows_distrust(system, same, 1, ([3, 0], [(0, None)])), True)
        ring = ([2, 5], [(0, None), (1, None)])
        self.assertIs(looks.shows_distrust((2, ((1, 0, 9), (0, 1, 9))), same, 1, ring), True)
        # A ring with the sum 0 is not bad: the looks agree.
        alike = [((0, 0), (1, 0), 1, 2), ((0, 0), (1, 0), 2, 3)]
        self.assertIs(looks.shows_distrust((2, ()), alike, 1, ([0, 3], [(0, None), (1, None)])), False)
        self.assertIs(looks.shows_distrust((2, ((1, 0, 2),)), alike, 1, ([0, 4], [(1, None)])), False)
        self.assertIs(looks.shows_distrust((2, ((1, 0, 1),)), alike, 1, ([0, 4], [(1, None)])), True)
        # A look that is left out must not be used again.
        again = ([2, 5], [(0, ring), (1, ring)])
        self.assertIs(looks.shows_distrust((2, ((1, 0, 9), (0, 1, 9))), same, 2, again), False)
        for number in (None, True, "1", -1, (1,), 2, 10 ** 39):
            self.assertIs(looks.shows_distrust((2, ((1, 0, 9), (0, 1, 9))), same, number, ring), False)


class Answers(unittest.TestCase):
    def test_answers(self):
        for rolls, system, found in asked(11, 200):
            first, second = some_spot(rolls, system), some_spot(rolls, system)
            told = sorted({delay_of(world, first, second) for world in found})
            self.assertEqual(looks.answers(system, first, second), (told[0], told[-1]))
            self.assertEqual(told, list(range(told[0], told[-1] + 1)))
            if first[0] == second[0]:
                self.assertEqual(told, [second[1] - first[1]])
                continue
            for answer in range(told[0] - 2, told[-1] + 3):
                if answer in told:
                    held = looks.with_answer(system, first, second, answer)
                    self.assertEqual(held, looked_by(system, [(first, second, answer, answer)]))
                else:
                    with self.assertRaises(errors.InvalidNumber):
                        looks.with_answer(system, first, second, answer)

    def test_open_answers(self):
        seen = {True: 0, False: 0}
        for rolls, system, found in asked(12, 1200, bounds_most=2):
            if system[0] == 1:
                continue
            first, second = [(point, rolls.randint(-2, 2)) for point in rolls.sample(range(system[0]), 2)]
            one, other = some_spot(rolls, system, 1), some_spot(rolls, system, 1)
            told = {}
            for world in found:
                told.setdefault(delay_of(world, first, second), set()).add(not_later(world, one, other))
            right = sorted(answer for answer, truths in told.items() if len(truths) == 2)
            ends = looks.open_answers(system, first, second, one, other)
            self.assertEqual(ends, (right[0], right[-1]) if right else None)
            self.assertEqual(right, list(range(right[0], right[-1] + 1)) if right else [])
            seen[right == []] += 1
        self.assertGreater(min(seen.values()), 100)

    def test_open_answers_without_ends(self):
        # An end that there is not grows with the box in which worlds are tried; all others stay.
        rolls = random.Random(13)
        seen = {True: 0, False: 0}
        for system in helper.with_worlds(14, 500, 3, 3, 2):
            if system[0] == 1:
                continue
            # A box about one point leaves the other one as it is.
            system = (system[0], system[1] + ((1, 0, 3), (0, 1, 3)) if rolls.random() < 0.7 else system[1])
            first, second = [(point, rolls.randint(-2, 2)) for point in rolls.sample(range(system[0]), 2)]
            one, other = some_spot(rolls, system), some_spot(rolls, system)
            ends = []
            for reach in (9, 12):
                told = {}
                for world in helper.box_worlds(system, reach):
                    told.setdefault(delay_of(world, first, second), set()).add(not_later(world, one, other))
                right = [answer for answer, truths in told.items() if len(truths) == 2]
                ends.append((min(right), max(right)) if right else None)
            if ends[0] is not None:
                ends[0] = tuple(None if near != far else near for near, far in zip(*ends))
                seen[None in ends[0]] += 1
            self.assertEqual(looks.open_answers(system, first, second, one, other), ends[0])
        self.assertGreater(min(seen.values()), 20, seen)

    def test_spots_of_one_point(self):
        self.assertEqual(looks.answers(SYSTEM, (1, 5), (1, 7)), (2, 2))
        for second in ((1, 7), (1, 5), None):
            for call in (lambda: looks.with_answer(SYSTEM, (1, 5), second, 2),
                         lambda: looks.with_answer(SYSTEM, (1, 5), second, None),
                         lambda: looks.open_answers(SYSTEM, (1, 5), second, ONE, OTHER),
                         lambda: looks.open_answers(SYSTEM, (1, 5), second, None, None)):
                with self.assertRaises(errors.InvalidSpots):
                    call()
        # A quarrel of one point is settled by every answer.
        for one, other in itertools.product([(1, 0), (1, 1), (1, 2)], repeat=2):
            self.assertIsNone(looks.open_answers(SYSTEM, (0, 0), (1, 0), one, other))

    def test_answers_that_there_are_not(self):
        self.assertEqual(looks.answers((2, ()), (0, 0), (1, 0)), (None, None))
        self.assertEqual(looks.answers((2, ((1, 0, 4),)), (0, 0), (1, 9)), (None, 13))
        self.assertEqual(looks.with_answer((2, ()), (0, 0), (1, 0), BIG), (2, ((1, 0, BIG), (0, 1, -BIG))))
        for answer in (True, None, "4", (4,)):
            with self.assertRaises(errors.InvalidNumber):
                looks.with_answer(SYSTEM, (0, 0), (1, 0), answer)
        with self.assertRaises(errors.NoWorld):
            looks.with_answer((2, ((1, 0, 0), (0, 1, -1))), (0, 0), (1, 0), 99)


class Quarrels(unittest.TestCase):
    def test_couples(self):
        seen = {True: 0, False: 0}
        for rolls, system, found in asked(21, 1200, points=4, reach=2, bounds_most=3):
            couples = [(some_spot(rolls, system), some_spot(rolls, system)) for _ in range(rolls.randint(0, 3))]
            one, other = some_spot(rolls, system), some_spot(rolls, system)
            right = is_settled(found, couples, one, other)
            seen[right] += 1
            self.assertIs(looks.settles(system, couples, one, other), right)
            told = looks.doubt(system, couples, one, other)
            self.assertEqual(told is None, right)
            if told is not None:
                self.assertTrue(is_doubt(system, couples, one, other, told))
                self.assertIs(looks.is_doubt(system, couples, one, other, told), True)
        self.assertGreater(min(seen.values()), 100)

    def test_doubts_of_systems_without_a_box(self):
        rolls = random.Random(22)
        for system in helper.with_worlds(23, 250, 3, 3, 2):
            couples = [(some_spot(rolls, system), some_spot(rolls, system)) for _ in range(rolls.randint(0, 2))]
            one, other = some_spot(rolls, system), some_spot(rolls, system)
            told = looks.doubt(system, couples, one, other)
            self.assertEqual(told is None, is_settled(helper.box_worlds(system, 10), couples, one, other))
            if told is not None:
                self.assertTrue(is_doubt(system, couples, one, other, told))

    def test_values_that_are_no_doubts(self):
        tried = 0
        for couples in ([], [((0, 0), (1, 0))], [((1, 0), (1, 3))]):
            for right in (((0, 5, 5), ([2], -1)), ((0, 5, 5), ([1], 1)), ((0, 5, 5), ([1, 2], 1)), ((0, 4, 5), ([2], -1))):
                for value in [right] + list(helper.mutants(right)):
                    told = looks.is_doubt(SYSTEM, couples, ONE, OTHER, value)
                    self.assertIs(told, is_doubt(SYSTEM, couples, ONE, OTHER, value), value)
                    tried += told
        self.assertGreater(tried, 3)
        # The world and where the move leads must be worlds.
        self.assertIs(looks.is_doubt(SYSTEM, [], ONE, OTHER, ((0, 10, 10), ([1], 1))), False)
        self.assertIs(looks.is_doubt(SYSTEM, [], ONE, OTHER, ((0, 11, 11), ([2], -1))), False)
        self.assertIs(looks.is_doubt(SYSTEM, [], ONE, OTHER, ((0, 10, 10), ([2], -1))), True)
        self.assertIs(looks.is_doubt((3, SYSTEM[1] + ((0, 1, -11),)), [], ONE, OTHER, ((0, 5, 5), ([2], -1))), False)

    def test_quarrels_of_one_point(self):
        for one, other in itertools.product([(1, 0), (1, 1)], repeat=2):
            self.assertIs(looks.settles(SYSTEM, [], one, other), True)
            self.assertIsNone(looks.doubt(SYSTEM, [], one, other))

    def test_couples_of_one_point_tell_nothing(self):
        self.assertIs(looks.settles(SYSTEM, [((1, 0), (1, 5))] * 2, ONE, OTHER), False)
        self.assertIs(looks.settles(SYSTEM, [((1, 0), (2, 5))], ONE, OTHER), True)
        self.assertIs(looks.settles(SYSTEM, [((2, 3), (0, 0)), ((0, 0), (1, 3))], ONE, OTHER), True)

    def test_the_cheapest_offers(self):
        seen = {}
        for rolls, system, found in asked(31, 500, points=4, reach=2, bounds_most=4):
            offers = [(some_spot(rolls, system), some_spot(rolls, system), rolls.choice([0, 0, 1, 1, 2, 5]))
                      for _ in range(rolls.randint(0, 4))]
            one, other = some_spot(rolls, system), some_spot(rolls, system)
            told = [(sum(offers[k][2] for k in row), row) for row in lists_of(len(offers))
                    if is_settled(found, [offers[k][:2] for k in row], one, other)]
            right = min(told) if told else None
            self.assertEqual(looks.cheapest(system, offers, one, other), right)
            many = None if right is None else len(right[1])
            seen[many] = seen.get(many, 0) + 1
        self.assertTrue(all(seen[many] > 5 for many in (None, 0, 1, 2)), seen)

    def test_offers_for_0_and_equal_prices(self):
        exact = (ONE, OTHER)
        self.assertEqual(looks.cheapest(SYSTEM, [], ONE, (1, 5)), (0, []))
        self.assertIsNone(looks.cheapest(SYSTEM, [], ONE, OTHER))
        self.assertEqual(looks.cheapest(SYSTEM, [exact + (0,)], ONE, (1, 5)), (0, []))
        self.assertEqual(looks.cheapest(SYSTEM, [exact + (3,), exact + (3,)], ONE, OTHER), (3, [0]))
        self.assertEqual(looks.cheapest(SYSTEM, [exact + (3,), exact + (2,)], ONE, OTHER), (2, [1]))
        # [0, 1] is ahead of [1], though the offer 0 is not needed.
        nothing = ((1, 0), (1, 9), 0)
        self.assertEqual(looks.cheapest(SYSTEM, [nothing, exact + (3,)], ONE, OTHER), (3, [0, 1]))
        self.assertEqual(looks.cheapest(SYSTEM, [exact + (3,), nothing], ONE, OTHER), (3, [0]))
        self.assertEqual(looks.cheapest(SYSTEM, [nothing, exact + (0,), nothing, exact + (0,)], ONE, OTHER), (0, [0, 1]))
        self.assertEqual(looks.cheapest(SYSTEM, [((0, 0), ONE, 0), ((0, 0), OTHER, 0), exact + (0,)], ONE, OTHER), (0, [0, 1]))


class Forced(unittest.TestCase):
    def test_the_fewest_looks(self):
        seen = {}
        for rolls, system, found in asked(41, 500, points=4, reach=4, bounds_most=1):
            told = rolls.choice([some_looks(rolls, system, 4), near_looks(rolls, system, rolls.choice(found), 5)])
            first, second = some_spot(rolls, system), some_spot(rolls, system)
            rows = {tuple(row): [world for world in found if all(keeps_look(world, told[k]) for k in row)]
                    for row in lists_of(len(told))}
            if not rows[tuple(range(len(told)))]:
                self.assert_refused(system, told, first, second)
                continue
            ends = [max(delay_of(world, first, second) for world in rows[row])
                    for row in (tuple(range(len(told))), ())]
            for most in (ends[0] - 1, ends[0], rolls.randint(*ends), ends[1]):
                right = [list(row) for row, kept in rows.items()
                         if max(delay_of(world, first, second) for world in kept) <= most]
                right = right[0] if right else None
                self.assertEqual(looks.forced_by(system, told, first, second, most), right)
                many = None if right is None else len(right)
                seen[many] = seen.get(many, 0) + 1
            idle = [k for k in range(len(told))
                    if all(keeps_look(world, told[k]) for world in rows[tuple(n for n in range(len(told)) if n != k)])]
            self.assertEqual(looks.idle_looks(system, told), idle)
        self.assertTrue(all(seen[many] > 5 for many in (None, 0, 1, 2)), seen)

    def assert_refused(self, system, told, first, second):
        for call in (lambda: looks.forced_by(system, told, first, second, 0), lambda: looks.idle_looks(system, told)):
            with self.assertRaises(errors.NoWorld) as caught:
                call()
            self.assertTrue(helper.is_bad_ring(looked_by(system, told), caught.exception.ring))

    def test_edges(self):
        told = [((0, 0), (1, 0), 0, 9), ((0, 0), (1, 0), 2, 7), ((0, 0), (1, 0), 2, 7)]
        self.assertEqual(looks.forced_by((2, ((1, 0, 8),)), told, (0, 0), (1, 0), 8), [])
        self.assertEqual(looks.forced_by((2, ()), told, (0, 0), (1, 0), 7), [1])
        self.assertIsNone(looks.forced_by((2, ()), told, (0, 0), (1, 0), 6))
        self.assertEqual(looks.forced_by((2, ()), told, (1, 0), (1, 5), 5), [])
        self.assertIsNone(looks.forced_by((2, ()), told, (1, 0), (1, 5), 4))
        self.assertEqual(looks.idle_looks((2, ()), told), [0, 1, 2])
        self.assertEqual(looks.idle_looks((2, ()), told[:2]), [0])
        self.assertEqual(looks.idle_looks((2, ((1, 0, 8),)), told[1:2]), [])
        self.assertEqual(looks.idle_looks((2, ((1, 0, 7), (0, 1, -2))), told[1:2]), [0])
        for most in (True, None, "7", (7,)):
            with self.assertRaises(errors.InvalidNumber):
                looks.forced_by((2, ()), told, (0, 0), (1, 0), most)


class WrongValues(unittest.TestCase):
    def test_systems_without_worlds(self):
        broken = (3, SYSTEM[1] + ((0, 1, -11),))
        told = [((0, 0), (1, 0), 5, 5), ((0, 0), (1, 0), 6, 6)]
        for call in (lambda: looks.agree(broken, told), lambda: looks.distrusted(broken, told),
                     lambda: looks.distrust_tree(broken, told), lambda: looks.forced_by(broken, told, ONE, OTHER, 3),
                     lambda: looks.idle_looks(broken, told), lambda: looks.answers(broken, ONE, OTHER),
                     lambda: looks.settles(broken, [], ONE, OTHER), lambda: looks.doubt(broken, [], ONE, OTHER),
                     lambda: looks.cheapest(broken, [], ONE, OTHER),
                     lambda: looks.open_answers(broken, ONE, OTHER, ONE, OTHER)):
            with self.assertRaises(errors.NoWorld) as caught:
                call()
            self.assertTrue(bounds.is_bad_ring(broken, caught.exception.ring))
        self.assertEqual(looks.with_looks(broken, told), looked_by(broken, told))

    def test_wrong_looks(self):
        for told in (None, tuple(LOOKS), [LOOKS[0][:3]], [LOOKS[0] + (0,)], [[*LOOKS[0]]], [((1, 0), (1, 3), 3, 3)],
                     [((0, 0), (1, 0), 5, 4)], [((0, 0), (1, 0), None, 5)], [((0, 0), (1, 0), True, 5)],
                     [((0, 0), (3, 0), 5, 5)], [((0, 0), [1, 0], 5, 5)]):
            for call in (lambda: looks.with_looks((3, ()), told), lambda: looks.agree((3, ()), told),
                         lambda: looks.shows_distrust((3, ()), told, None, None),
                         lambda: looks.forced_by((3, ()), told, None, None, None)):
                with self.assertRaises(errors.InvalidLooks, msg=told):
                    call()

    def test_wrong_couples_and_offers(self):
        for told in (None, (), [(ONE,)], [(ONE, OTHER, 1)], [[ONE, OTHER]], [(ONE, (3, 0))], [(ONE, None)], [ONE]):
            if told != ():
                with self.assertRaises(errors.InvalidCouples):
                    looks.settles(SYSTEM, told, None, None)
            with self.assertRaises(errors.InvalidCouples):
                looks.is_doubt(SYSTEM, told, None, None, None)
        for told in (None, (), [(ONE, OTHER)], [(ONE, OTHER, -1)], [(ONE, OTHER, True)], [(ONE, OTHER, None)],
                     [[ONE, OTHER, 1]], [(ONE, (3, 0), 1)], [(ONE, OTHER, 1, 1)]):
            with self.assertRaises(errors.InvalidOffers):
                looks.cheapest(SYSTEM, told, None, None)


class Limits(unittest.TestCase):
    """40 looks, 8 to distrust, trees nested 40 deep, 8 couples of 10 points, 6 offers of 6 points, 30 digits."""

    def test_40_looks(self):
        for seed in range(3):
            rolls = random.Random(seed)
            system, world = helper.large_system(seed)
            told = []
            for _ in range(40):
                (p, a), (q, b) = [(point, rolls.randint(-BIG, BIG)) for point in rolls.sample(range(24), 2)]
                delay = delay_of(world, (p, a), (q, b))
                told.append(((p, a), (q, b), delay - rolls.randint(0, BIG), delay + rolls.randint(0, BIG)))
            self.assertEqual(looks.with_looks(system, told), looked_by(system, told))
            self.assertIs(looks.agree(system, told), True)
            self.assertIs(looks.agree(system, told + [((0, 0), (1, 0), 9 * BIG, 9 * BIG)]), False)

    def test_8_looks_of_one_pair(self):
        told = [((0, 0), (1, 0), k, k) for k in range(8)]
        self.assertEqual(looks.distrusted((2, ()), told), [0, 1, 2, 3, 4, 5, 6])
        tree = looks.distrust_tree((2, ()), told)
        self.assertTrue(is_tree((2, ()), told, 7, [], tree))
        self.assertIs(looks.shows_distrust((2, ()), told, 7, tree), True)

    def test_8_looks_of_large_systems(self):
        for seed in range(4):
            rolls = random.Random(seed)
            system, world = helper.large_system(seed)
            told = []
            for k in range(8):
                first, second = [(point, -world[point]) for point in rolls.sample(range(24), 2)]
                low = rolls.choice([-1, 0, BIG, -BIG])
                told.append((first, second, low, low + rolls.randint(0, BIG // 9)))
            left = looks.distrusted(system, told)
            self.assertIs(looks.agree(system, [look for k, look in enumerate(told) if k not in left]), True)
            tree = looks.distrust_tree(system, told)
            self.assertTrue(is_tree(system, told, len(left), [], tree))
            self.assertIs(looks.shows_distrust(system, told, len(left), tree), True)
            kept = [look for k, look in enumerate(told) if k not in left]
            for most in (0, BIG, -BIG):
                row = looks.forced_by(system, kept, (2, -world[2]), (9, -world[9]), most)
                if row is not None:
                    held = looked_by(system, [kept[k] for k in row])
                    self.assertLessEqual(looks.answers(held, (2, -world[2]), (9, -world[9]))[1], most)

    def test_deep_trees(self):
        told = [((0, 0), (1, 0), 0, 0)] + [((0, 0), (1, 0), 1, 1)] * 39
        # A ring of the first look and of one of the others, with which the tree goes on.
        tree = None
        for k in range(39, 0, -1):
            tree = ([0, 2 * k + 1], [(0, tree if k == 39 else None), (k, tree)])
        self.assertIs(looks.shows_distrust((2, ()), told, 39, tree), False)
        self.assertIs(looks.shows_distrust((2, ()), told, 1, ([0, 3], [(0, None), (1, None)])), True)
        chain = None
        for k in range(40):
            chain = ([], [(0, chain)])
        self.assertIs(looks.shows_distrust((2, ()), told, 40, chain), False)
        # One look denies itself beside a bound, each one of 40: a tree of single branches.
        alone = [((0, 0), (1, 0), 5, 5)] * 40
        system = (2, ((1, 0, 4),))
        tree = None
        for k in range(39, -1, -1):
            tree = ([0, 2 * k + 2], [(k, tree)])
        self.assertIs(looks.shows_distrust(system, alone, 40, tree), True)
        self.assertIs(looks.shows_distrust(system, alone, 39, tree), False)
        self.assertIs(looks.shows_distrust(system, alone, 41, tree), False)
        self.assertEqual(looks.distrusted(system, alone[:12]), list(range(12)))

    def test_8_couples_and_6_offers(self):
        for seed in range(6):
            rolls = random.Random(seed)
            world = (0,) + tuple(rolls.randint(-BIG, BIG) for _ in range(9))
            pairs = [(i, (i + 1) % 10) for i in range(10)] + [tuple(rolls.sample(range(10), 2)) for _ in range(110)]
            system = (10, tuple((i, j, world[i] - world[j] + rolls.randint(0, BIG)) for i, j in pairs))
            couples = [(some_spot(rolls, system), some_spot(rolls, system)) for _ in range(8 if seed % 2 else 3)]
            one, other = [(point, -world[point]) for point in rolls.sample(range(10), 2)]
            told = looks.doubt(system, couples, one, other)
            self.assertIs(looks.settles(system, couples, one, other), told is None)
            self.assertTrue(told is None or is_doubt(system, couples, one, other, told))
        points = (6, tuple((i, j, 3) for i, j in itertools.permutations(range(6), 2)))
        offers = [((k, 0), (k + 1, 0), BIG - k) for k in range(5)] + [((0, 0), (5, 0), 5 * BIG)]
        self.assertEqual(looks.cheapest(points, offers, (0, 0), (5, 0)), (5 * BIG - 10, [0, 1, 2, 3, 4]))
        self.assertEqual(looks.cheapest(points, offers, (1, 0), (5, 0)), (4 * BIG - 10, [1, 2, 3, 4]))


if __name__ == "__main__":
    unittest.main()
