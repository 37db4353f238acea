"""Points [14] to [16]: gaps of spots, claims, joint claims, and the chains that show claims."""

import itertools
import random
import unittest

from dueanywhere import errors
from dueanywhere.bounds import without
from dueanywhere.orders import (claimed, fewest_bounds, first_chain, gap, is_possible, is_sure, joint, shows_apart)
from tests import helper
from tests.helper import BIG, BROKEN, SYSTEM

ONE, OTHER = (1, 10), (2, 8)


def some_claims(seed, system, many):
    """Claims of spots of the system, the same ones in each run."""
    rolls = random.Random(seed)
    spots = [(rolls.randrange(system[0]), rolls.randint(-3, 3)) for _ in range(2 * many)]
    return [(spots[2 * k], spots[2 * k + 1], rolls.randint(-4, 4)) for k in range(many)]


def holds(world, claim):
    (i, shift), (j, other_shift), most = claim
    return world[i] + shift - world[j] - other_shift <= most


def bound_of(claim):
    (i, shift), (j, other_shift), most = claim
    return (i, j, most - shift + other_shift)


class Examples(unittest.TestCase):
    def test_those_of_the_interface(self):
        self.assertEqual(gap(SYSTEM, ONE, OTHER), (-2, 1))
        self.assertIs(is_sure(SYSTEM, (OTHER, ONE, 1)), True)
        self.assertIs(is_possible(SYSTEM, (ONE, OTHER, -2)), False)
        self.assertEqual(fewest_bounds(SYSTEM, (OTHER, ONE, 1)), 1)
        self.assertEqual(first_chain(SYSTEM, (OTHER, ONE, 1)), [2])
        self.assertEqual(joint(SYSTEM, [(ONE, OTHER, -2)])[0], "ring")


class Gaps(unittest.TestCase):
    def test_against_all_worlds_of_a_box(self):
        for system in helper.with_worlds(41, 100, 4, 6, 3):
            told = helper.boxed(system, 3)
            found = helper.box_worlds(told, 3)
            if not found:
                continue
            for i, j, shift in itertools.product(range(told[0]), range(told[0]), (-5, 0, 2)):
                gaps = [world[j] + 7 - world[i] - shift for world in found]
                self.assertEqual(gap(told, (i, shift), (j, 7)), (min(gaps), max(gaps)))

    def test_ends_that_there_are_not(self):
        self.assertEqual(gap((2, ()), (0, 4), (1, 9)), (None, None))
        self.assertEqual(gap((2, ((1, 0, 3),)), (0, 4), (1, 9)), (None, 8))
        self.assertEqual(gap((2, ((1, 0, 3),)), (1, 9), (0, 4)), (-8, None))
        self.assertEqual(gap((2, ()), (1, 4), (1, 9)), (5, 5))
        self.assertEqual(gap((1, ()), (0, BIG), (0, -BIG)), (-2 * BIG, -2 * BIG))


class Claims(unittest.TestCase):
    def test_sure_and_possible_against_all_worlds_of_a_box(self):
        for seed, system in enumerate(helper.with_worlds(42, 100, 4, 6, 3)):
            told = helper.boxed(system, 3)
            found = helper.box_worlds(told, 3)
            for claim in some_claims(seed, told, 20) if found else []:
                self.assertIs(is_sure(told, claim), all(holds(world, claim) for world in found))
                self.assertIs(is_possible(told, claim), any(holds(world, claim) for world in found))

    def test_points_without_bounds(self):
        for most in (-BIG, 0, BIG):
            self.assertIs(is_sure((2, ()), ((0, 0), (1, 0), most)), False)
            self.assertIs(is_possible((2, ()), ((0, 0), (1, 0), most)), True)
        below = (2, ((1, 0, 3),))
        self.assertEqual([is_sure(below, ((1, 0), (0, 0), most)) for most in (2, 3)], [False, True])
        self.assertEqual([is_possible(below, ((0, 0), (1, 0), most)) for most in (-4, -3)], [False, True])

    def test_claims_of_one_point(self):
        for system in ((1, ()), (2, ()), SYSTEM):
            for most, right in ((3, False), (4, True), (5, True)):
                claim = ((0, 9), (0, 5), most)
                self.assertIs(is_sure(system, claim), right)
                self.assertIs(is_possible(system, claim), right)
                self.assertEqual(fewest_bounds(system, claim), 0 if right else None)
                self.assertEqual(first_chain(system, claim), [] if right else None)

    def test_no_world(self):
        for call in (is_sure, is_possible, fewest_bounds, first_chain):
            for claim in (((0, 0), (0, 0), 0), ((0, 0), (0, 0), -1), ((1, 0), (2, 0), 0)):
                with self.assertRaises(errors.NoWorld) as caught:
                    call(BROKEN, claim)
                self.assertTrue(helper.is_bad_ring(BROKEN, caught.exception.ring))


class JointClaims(unittest.TestCase):
    def test_claimed(self):
        claims = [(ONE, OTHER, 4), ((1, 0), (1, 9), -50), ((0, 1), (1, 0), -3), ((0, 1), (1, 0), -3)]
        self.assertEqual(claimed(SYSTEM, claims), (3, SYSTEM[1] + ((1, 2, 2), (0, 1, -4), (0, 1, -4))))
        self.assertEqual(claimed(BROKEN, claims), (3, BROKEN[1] + ((1, 2, 2), (0, 1, -4), (0, 1, -4))))
        self.assertEqual(claimed(SYSTEM, []), SYSTEM)

    def test_against_all_worlds_of_a_box(self):
        for seed, system in enumerate(helper.with_worlds(43, 300, 4, 6, 3)):
            told = helper.boxed(system, 3)
            found = helper.box_worlds(told, 3)
            if found:
                self.assert_joint(told, some_claims(seed, told, seed % 5), found)

    def assert_joint(self, system, claims, found):
        told = joint(system, claims)
        self.assertIsInstance(told, tuple)
        kind, shown = told
        possible = [world for world in found if all(holds(world, claim) for claim in claims)]
        never = [k for k, claim in enumerate(claims) if claim[0][0] == claim[1][0] and not holds(found[0], claim)]
        self.assertEqual(kind, "never" if never else "world" if possible else "ring")
        if kind == "world":
            self.assertIn(shown, possible)
        elif kind == "never":
            self.assertEqual(shown, never[0])
        else:
            self.assertTrue(helper.is_bad_ring(claimed(system, claims), shown))
        for index in range(-1, len(claims) + 1):
            self.assertIs(shows_apart(system, claims, ("never", index)), index in never)
        self.assertIs(shows_apart(system, claims, told), kind != "world")

    def test_never_comes_ahead_of_ring(self):
        claims = [(ONE, OTHER, -2), ((2, 3), (2, 3), 0), ((2, 3), (2, 3), -1), ((0, 0), (0, 5), -6)]
        self.assertEqual(joint(SYSTEM, claims), ("never", 2))
        ring = joint(SYSTEM, claims[:2])[1]
        self.assertTrue(helper.is_bad_ring(claimed(SYSTEM, claims), ring))
        for value in (("never", 2), ("never", 3), ("ring", ring)):
            self.assertIs(shows_apart(SYSTEM, claims, value), True)

    def test_no_world_of_the_system_itself(self):
        for claims in ([], [((0, 0), (0, 0), -1)], [(ONE, OTHER, -2)]):
            with self.assertRaises(errors.NoWorld) as caught:
                joint(BROKEN, claims)
            self.assertTrue(helper.is_bad_ring(BROKEN, caught.exception.ring))
        self.assertIs(shows_apart(BROKEN, [], ("ring", [4, 2, 0])), True)
        self.assertIs(shows_apart(BROKEN, [((0, 0), (0, 0), -1)], ("never", 0)), True)

    def test_no_claims(self):
        self.assertEqual(joint((1, ()), []), ("world", (0,)))
        kind, world = joint(SYSTEM, [])
        self.assertEqual((kind, helper.is_world(SYSTEM, world)), ("world", True))

    def test_what_does_not_show_it(self):
        claims = [(ONE, OTHER, -2), ((0, 0), (0, 0), -1)]
        ring = joint(SYSTEM, claims[:1])[1]
        self.assertIs(shows_apart(SYSTEM, claims, ("ring", ring)), True)
        for value in (("ring", tuple(ring)), ["ring", ring], ("ring", ring, 0), ("ring",), ("world", ring),
                      ("never", ring), ("ring", 1), ("ring", []), ("never", 0), ("never", True), ("never", "1"),
                      ("never", 2), ("never", -1), (None, ring), ("Ring", ring), ("", 1), None, 1, "never",
                      (["never"], 1), ("world", (0, 2, 2))):
            self.assertIs(shows_apart(SYSTEM, claims, value), False, value)


class ShowingChains(unittest.TestCase):
    def test_against_all_chains(self):
        for seed, system in enumerate(helper.with_worlds(44, 80, 4, 6, 3)):
            for claim in some_claims(seed, system, 12):
                self.assertEqual(first_chain(system, claim), self.first_by_trying(system, claim), (system, claim))

    def first_by_trying(self, system, claim):
        """The first one of all chains, the shorter ones ahead, that show a sure claim; None of a claim that is not."""
        i, j, most = bound_of(claim)
        for length in range(system[0]):
            for indexes in itertools.product(range(len(system[1])), repeat=length):
                chain = list(indexes)
                if helper.is_chain(system, i, j, chain) and helper.sum_of(system, chain) <= most:
                    self.assert_fewest(system, claim, length)
                    return chain
        self.assertIs(is_sure(system, claim), False)
        self.assertIsNone(fewest_bounds(system, claim))
        return None

    def assert_fewest(self, system, claim, length):
        self.assertIs(is_sure(system, claim), True)
        self.assertEqual(fewest_bounds(system, claim), length)

    def test_fewer_bounds_do_not_show_it(self):
        for seed, system in enumerate(helper.with_worlds(45, 60, 4, 6, 3)):
            for claim in some_claims(seed, system, 4):
                fewest = fewest_bounds(system, claim)
                if fewest:
                    for kept in itertools.combinations(system[1], fewest - 1):
                        self.assertIs(is_sure((system[0], kept), claim), False)
                    kept = tuple(system[1][index] for index in first_chain(system, claim))
                    self.assertIs(is_sure((system[0], kept), claim), True)

    def test_the_first_one_need_not_have_the_least_sum(self):
        system = (3, ((1, 0, 9), (1, 2, 4), (2, 0, 4), (1, 0, 7), (2, 0, 1), (1, 2, 1)))
        for most, chain in ((9, [0]), (8, [3]), (7, [3]), (6, [1, 4]), (5, [1, 4]), (4, [5, 4]), (2, [5, 4]),
                            (1, None)):
            claim = ((1, 2), (0, 2), most)
            self.assertEqual(first_chain(system, claim), chain, most)
            self.assertEqual(fewest_bounds(system, claim), chain if chain is None else len(chain))

    def test_bounds_that_stand_twice(self):
        system = (2, ((0, 1, 3), (1, 0, 5), (1, 0, 5)))
        self.assertEqual(first_chain(system, ((1, 0), (0, 0), 5)), [1])
        self.assertEqual(first_chain(without(system, 1), ((1, 0), (0, 0), 5)), [1])


if __name__ == "__main__":
    unittest.main()
