"""Point [4]: systems of 24 points and 120 bounds and numbers of 30 digits are answered."""

import unittest

from dueanywhere import bounds, errors, orders, worlds
from tests import helper
from tests.helper import BIG


class LargeSystems(unittest.TestCase):
    def setUp(self):
        self.told = [helper.large_system(seed) for seed in range(3)] + [helper.large_system(3, tied=True)]

    def test_worlds_and_gaps(self):
        for system, world in self.told:
            self.assertIsNone(bounds.bad_ring(system))
            self.assertTrue(worlds.is_world(system, world))
            self.assertTrue(helper.is_world(system, worlds.some_world(system)))
            gaps = helper.table_by_passing(system)
            self.assertEqual(bounds.table(system), gaps)
            for i in range(0, 24, 5):
                chain = bounds.chain_for(system, i, 23)
                self.assertEqual(helper.sum_of(system, chain), gaps[i][23])
                self.assertTrue(helper.is_chain(system, i, 23, chain) and helper.is_simple(system, chain))
                self.assertTrue(set(bounds.deciding(system, i, 23)) <= set(chain))
                nearly = worlds.world_with(system, i, 23, gaps[i][23])
                self.assertTrue(helper.is_world(system, nearly))

    def test_needed_bounds_are_enough(self):
        for system, _ in self.told:
            kept = bounds.needed(system)
            fewer = (24, tuple(system[1][index] for index in kept))
            self.assertIs(bounds.are_alike(system, fewer), True)
            self.assertEqual(bounds.idle(fewer), [])
            self.assertIsNone(bounds.parting(system, fewer))
            self.assertTrue(set(range(120)) - set(bounds.idle(system)) <= set(kept))

    def test_groups_of_tied_points(self):
        self.assertEqual(bounds.groups(self.told[3][0]), [list(range(24))])

    def test_walks_and_ends(self):
        for system, world in self.told[:3]:
            low, high = worlds.lowest(system), worlds.highest(system)
            self.assertEqual((None in low, None in high), (False, False))
            self.assertTrue(helper.is_world(system, low) and helper.is_world(system, high))
            self.assertEqual(worlds.greater(system, low, high), high)
            self.assertEqual(worlds.lesser(system, low, world), low)
            rise = max(b - a for a, b in zip(low, high))
            self.assertEqual(worlds.moves_between(system, low, high), rise)

    def test_nearest_worlds(self):
        for system, world in self.told:
            wish = tuple(-moment for moment in world)
            least, found = worlds.nearest(system, wish)
            self.assertTrue(helper.is_world(system, found))
            self.assertEqual(max(abs(a - b) for a, b in zip(found, wish)), least)
            ring = bounds.bad_ring(worlds.near(system, wish, least - 1))
            self.assertIs(worlds.shows_far(system, wish, least, ring), True)

    def test_claims_and_lines(self):
        for system, world in self.told:
            spots = [(point, -world[point] + point % 3) for point in range(24)]
            line = orders.line_in(system, spots, world)
            self.assertEqual(line, [list(range(start, 24, 3)) for start in range(3)])
            found = orders.line_world(system, spots, line)
            self.assertEqual(orders.line_in(system, spots, found), line)
            claims = [(spots[k], spots[k + 1], 2) for k in range(23)] * 2
            kind, kept = orders.joint(system, claims)
            self.assertEqual((kind, helper.is_world(orders.claimed(system, claims), kept)), ("world", True))
            self.assertTrue(orders.lines(system, spots[:5]))
            self.assertTrue(orders.line_steps(system, 3, 9, [(3, k) for k in range(12)] + [(9, -k) for k in range(12)]))

    def test_fewest_bounds(self):
        for system, _ in self.told[:3]:
            for i in range(1, 24, 4):
                most = bounds.greatest_gap(system, i, 0)
                claim = ((i, BIG), (0, -BIG), most + 2 * BIG)
                chain = orders.first_chain(system, claim)
                self.assertEqual(len(chain), orders.fewest_bounds(system, claim))
                self.assertTrue(helper.is_chain(system, i, 0, chain))
                self.assertEqual(helper.sum_of(system, chain), most)
                self.assertIs(orders.is_sure(system, claim), True)
                self.assertIs(orders.is_sure(system, ((i, 0), (0, 0), most - 1)), False)

    def test_endlessly_many_worlds(self):
        system = (24, self.told[0][0][1][:20])
        self.assertIsNone(worlds.count_worlds(system))
        with self.assertRaises(errors.EndlessWorlds):
            worlds.worlds(system)


class LargeSystemsWithoutWorlds(unittest.TestCase):
    def setUp(self):
        self.told = [helper.large_broken(seed) for seed in range(3)]

    def test_bad_rings(self):
        for system in self.told:
            self.assertTrue(helper.is_bad_ring(system, bounds.bad_ring(system)))
            for call in (worlds.some_world, worlds.count_worlds, worlds.worlds, bounds.table):
                with self.assertRaises(errors.NoWorld) as caught:
                    call(system)
                self.assertTrue(helper.is_bad_ring(system, caught.exception.ring))

    def test_slack(self):
        for system in self.told:
            for amount in (0, BIG // 7, BIG):
                worse = bounds.loosened(system, -amount)
                found = bounds.slack(worse)
                self.assertEqual(found, amount + 1)
                self.assertIsNone(bounds.bad_ring(bounds.loosened(worse, found)))
                self.assertIs(bounds.shows_slack(worse, found, bounds.slack_ring(worse)), True)

    def test_needed_bounds(self):
        for system in self.told:
            kept = bounds.needed(system)
            self.assertEqual(len(kept), 24)
            fewer = (24, tuple(system[1][index] for index in kept))
            self.assertEqual(sorted(bounds.bad_ring(fewer)), list(range(24)))
            self.assertIs(bounds.are_alike(system, fewer), True)
            self.assertEqual(bounds.idle(fewer), [])


if __name__ == "__main__":
    unittest.main()
