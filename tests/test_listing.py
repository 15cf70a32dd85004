"""Loads that come about, in ascending order [3] [73]."""

import copy
import inspect
import random
import unittest

from leadswitch.clusters import Cluster
from leadswitch.errors import TooMany
from leadswitch.extremes import best, comes_about
from leadswitch.listing import all_loads, next_loads
from leadswitch.nearest import to_ranges
from worlds import RING, abouts, anew, great_ring, great_worlds, loads_of, wide_worlds

WORLDS = wide_worlds(100, 120)
GREAT = great_worlds(101, 25)
MANY, MOST = 10 ** 18, 10 ** 30
ROW = Cluster([(0, 10), (0, 6), (0, 10)], [(0, 1, 5), (1, 2, 5)])
THREE = Cluster([(0, 2), (1, 2), (1, 2)], RING)


def are_some(cluster, leads, before, least, most):
    """Return whether loads come about that begin with those of a list, the next one being from least to most."""
    ranges = [(load, load) for load in before] + cluster.bounds()[len(before):]
    if any(not floor <= load <= ceiling for load, (floor, ceiling) in zip(before, cluster.bounds())):
        return False
    floor, ceiling = cluster.bounds()[len(before)]
    least, most = max(least, floor), min(most, ceiling)
    if least > most:
        return False
    ranges[len(before)] = (least, most)
    return to_ranges(cluster, leads, ranges)[0] == "plan"


class NextLoadsTest(unittest.TestCase):
    def check_least(self, cluster, leads, loads):
        """Check what is returned by the definition, asking [60] alone."""
        found = next_loads(cluster, leads, loads)
        size = cluster.size()
        same = 0
        while found is not None and same < size and found[same] == loads[same]:
            same += 1
        if found is not None:
            self.assertEqual((found.__class__, len(found)), (list, size))
            self.assertGreaterEqual(found, loads)
            self.assertIs(comes_about(cluster, leads, found), True)
            for at in range(same, size):
                least = loads[at] + 1 if at == same else -1
                self.assertIs(are_some(cluster, leads, found[:at], least, found[at] - 1), False)
        for at in range(0 if found is None else same + 1, size):
            self.assertIs(are_some(cluster, leads, loads[:at], loads[at] + 1, 10 ** 40), False)
        if same < size:
            self.assertIs(comes_about(cluster, leads, loads), False)
        return found

    def test_against_a_search(self):
        chance, counts = random.Random(102), {True: 0, False: 0}
        for cluster, leads in WORLDS:
            found = abouts(cluster, leads)
            for _ in range(12):
                loads = [load + chance.choice((-2, -1, 0, 0, 0, 0, 1, 2)) for load in chance.choice(found)]
                expected = min([each for each in found if each >= loads], default=None)
                counts[expected is None] += 1
                self.assertEqual(next_loads(cluster, leads, loads), expected)
        self.assertGreater(min(counts.values()), 100)

    def test_loads_that_come_about_themselves(self):
        for cluster, leads in WORLDS[::2]:
            found = abouts(cluster, leads)
            for loads in found[:30]:
                self.assertEqual(next_loads(cluster, leads, loads), loads)
            for loads, after in zip(found, found[1:] + [None]):
                self.assertEqual(next_loads(cluster, leads, loads[:-1] + [loads[-1] + 1]), after)

    def test_loads_below_0_and_of_forty_digits(self):
        great = 10 ** 40 - 1
        for cluster, leads in WORLDS[::5]:
            found, size = abouts(cluster, leads), cluster.size()
            self.assertEqual(next_loads(cluster, leads, [-1] * size), found[0])
            self.assertEqual(next_loads(cluster, leads, [-great] + [great] * (size - 1)), found[0])
            self.assertIsNone(next_loads(cluster, leads, [great] + [-great] * (size - 1)))
            self.assertIsNone(next_loads(cluster, leads, [great] * size))
            for at in range(size):
                for many in (great, -great):
                    for loads in found[:3]:
                        asked = loads[:at] + [many] + loads[at + 1:]
                        expected = min([each for each in found if each >= asked], default=None)
                        self.assertEqual(next_loads(cluster, leads, asked), expected)

    def test_great_counts(self):
        chance, nones = random.Random(103), 0
        for cluster, leads in GREAT:
            have = loads_of(10, cluster.bundles(), leads)
            goal = best(cluster, leads, [chance.randint(0, 3) for _ in range(10)])[1]
            for loads in (have, goal, [0] * 10, [-1] + have[1:], have[:9] + [10 ** 39], goal[:8] + [10 ** 39, 0],
                          have[:5] + [have[5] + 1] + have[6:], goal[:4] + [goal[4] + 1] + goal[5:],
                          [load + chance.choice((-1, 0, 0, 10 ** 17)) for load in have]):
                nones += self.check_least(cluster, leads, loads) is None
            self.assertIsNone(self.check_least(cluster, leads, [load + 1 for load in next_most(cluster, leads)]))
        self.assertGreater(nones, 0)

    def test_a_ring_of_great_counts(self):
        ring, leads = great_ring(0, MOST)
        for loads, found in (([0, 0, 0], [0, MANY, 2 * MANY]), ([0, MANY, 2 * MANY], [0, MANY, 2 * MANY]),
                             ([0, MANY, 2 * MANY + 1], [0, MANY + 1, 2 * MANY - 1]),
                             ([1, 0, 0], [1, MANY - 1, 2 * MANY]),
                             ([0, 2 * MANY, MANY + 1], [1, MANY - 1, 2 * MANY]),
                             ([2 * MANY, MANY, 0], [2 * MANY, MANY, 0]),
                             ([2 * MANY, MANY, 1], None), ([2 * MANY + 1, 0, 0], None)):
            self.assertEqual(next_loads(ring, leads, loads), found)
        ring, leads = great_ring(MANY, MOST)
        self.assertEqual(next_loads(ring, leads, [MANY, 0, 10 ** 39]), [MANY] * 3)
        self.assertIsNone(next_loads(ring, leads, [MANY, MANY, MANY + 1]))

    def test_rigid_brokers(self):
        alone = Cluster([(1, 1), (1, 1)], [(0, 1, 2)])
        for loads, found in (([0, 9], [1, 1]), ([1, 1], [1, 1]), ([1, 2], None), ([2, 0], None)):
            self.assertEqual(next_loads(alone, (1,), loads), found)
        cluster = Cluster([(0, 9), (5, 5), (0, 9)], [(0, 1, 5), (1, 2, 5), (0, 2, 2)])
        for loads, found in (([3, 6, 0], [4, 5, 3]), ([3, 5, 0], [3, 5, 4]), ([5, 5, 3], None), ([3, 5, 5], [4, 5, 3])):
            self.assertEqual(next_loads(cluster, (3, 3, 1), loads), found)


def next_most(cluster, leads):
    """Return the greatest loads that come about, as lists are ordered."""
    return best(cluster, leads, [10 ** 9 - at for at in range(cluster.size())])[1]


class AllLoadsTest(unittest.TestCase):
    def check_too_many(self, limit, call):
        with self.assertRaises(TooMany) as caught:
            call()
        self.assertEqual(caught.exception.limit, limit)

    def test_against_a_search(self):
        for cluster, leads in WORLDS:
            found = abouts(cluster, leads)
            self.assertLess(len(found), 400)
            self.assertEqual(all_loads(cluster, leads), found)
            self.assertEqual(all_loads(cluster, leads, limit=len(found)), found)
            self.assertEqual(all_loads(cluster, leads, limit=1000), found)
            for limit in range(1, min(len(found), 5)):
                self.check_too_many(limit, lambda: all_loads(cluster, leads, limit=limit))
            if len(found) > 1:
                self.check_too_many(len(found) - 1, lambda: all_loads(cluster, leads, limit=len(found) - 1))

    def test_each_one_is_the_next_one(self):
        for cluster, leads in WORLDS[::4]:
            found, loads = [], next_loads(cluster, leads, [0] * cluster.size())
            while loads is not None:
                found.append(loads)
                loads = next_loads(cluster, leads, loads[:-1] + [loads[-1] + 1])
            self.assertEqual(all_loads(cluster, leads), found)

    def test_the_limit_of_400(self):
        self.assertEqual(inspect.signature(all_loads).parameters["limit"].default, 400)
        self.assertEqual(inspect.signature(all_loads).parameters["limit"].kind, inspect.Parameter.KEYWORD_ONLY)
        for many, is_error in ((398, False), (399, False), (400, True), (401, True)):
            cluster = Cluster([(0, 999), (0, 999)], [(0, 1, many)])
            expected = [[load, many - load] for load in range(many + 1)]
            if is_error:
                self.check_too_many(400, lambda: all_loads(cluster, (7,)))
            else:
                self.assertEqual(all_loads(cluster, (7,)), expected)
            self.assertEqual(all_loads(cluster, (7,), limit=many + 1), expected)
            self.check_too_many(many, lambda: all_loads(cluster, (7,), limit=many))

    def test_the_greatest_and_the_least_limit(self):
        cluster = Cluster([(0, 9999), (0, 9999)], [(0, 1, 999)])
        self.assertEqual(len(all_loads(cluster, (7,), limit=1000)), 1000)
        self.check_too_many(1000, lambda: all_loads(cluster.grown(0, 1, 1), (7,), limit=1000))
        self.check_too_many(1, lambda: all_loads(cluster, (7,), limit=1))
        self.assertEqual(all_loads(Cluster([(7, 7), (0, 999)], [(0, 1, 9)]), (7,), limit=1), [[7, 2]])

    def test_great_counts(self):
        for cluster, leads in GREAT:
            loads = next_loads(cluster, leads, [0] * 10)
            if next_loads(cluster, leads, loads[:-1] + [loads[-1] + 1]) is None:
                self.assertEqual(all_loads(cluster, leads), [loads])
            for limit in (1, 50):
                try:
                    self.assertLessEqual(len(all_loads(cluster, leads, limit=limit)), limit)
                except TooMany as error:
                    self.assertEqual(error.limit, limit)
        ring, leads = great_ring(MANY - 1, MOST)
        found = [[MANY + a, MANY + b, MANY + c] for a in (-1, 0, 1, 2) for b in (-1, 0, 1, 2) for c in (-1, 0, 1, 2)
                 if a + b + c == 0]
        self.assertEqual(all_loads(ring, leads), found)
        ring, leads = great_ring(0, MOST)
        self.check_too_many(400, lambda: all_loads(ring, leads))
        ring, leads = great_ring(MANY, MOST)
        self.assertEqual(all_loads(ring, leads, limit=1), [[MANY] * 3])

    def test_rigid_brokers_and_no_bundles(self):
        self.assertEqual(all_loads(Cluster([(1, 1), (1, 1)], [(0, 1, 2)]), (1,)), [[1, 1]])
        cluster = Cluster([(0, 9), (5, 5), (0, 9)], [(0, 1, 5), (1, 2, 5), (0, 2, 2)])
        self.assertEqual(all_loads(cluster, (3, 3, 1)), [[3, 5, 4], [4, 5, 3], [5, 5, 2]])
        self.assertEqual(all_loads(Cluster([(0, 1), (0, 0)], []), (), limit=1), [[0, 0]])


class SameTest(unittest.TestCase):
    def told(self, cluster, leads):
        have = loads_of(cluster.size(), cluster.bundles(), leads)
        try:
            listed = all_loads(cluster, leads, limit=30)
        except TooMany as error:
            listed = error.limit
        return [listed, next_loads(cluster, leads, [0] * cluster.size()), next_loads(cluster, leads, have),
                next_loads(cluster, leads, have[:-1] + [have[-1] + 1])]

    def test_two_leads_by_turns(self):
        cluster = Cluster([(0, 9), (5, 5), (0, 9)], [(0, 1, 5), (1, 2, 5), (0, 2, 2)])
        one, other = (3, 3, 1), (1, 1, 2)
        first, second = self.told(cluster, one), self.told(cluster, other)
        self.assertNotEqual(first, second)
        for leads, expected in ((one, first), (other, second), (one, first), (other, second)):
            self.assertEqual(self.told(cluster, leads), expected)

    def test_changed_clusters(self):
        for cluster, leads in WORLDS[:60] + GREAT[:5]:
            for changed in anew(cluster):
                self.assertEqual(self.told(changed, leads), self.told(cluster, leads))
        self.assertEqual(len(all_loads(THREE.bounded(2, 0, 2), (1, 1, 0))), 5)
        self.assertEqual(all_loads(THREE.grown(0, 1, 1), (1, 1, 0)), [[0, 2, 2], [1, 1, 2], [1, 2, 1], [2, 1, 1]])

    def test_arguments_stay_and_lists_are_new(self):
        loads = [0, 1, 3]
        before = copy.deepcopy(loads)
        for _ in range(2):
            found, nexts = all_loads(THREE, (1, 1, 0)), next_loads(THREE, (1, 1, 0), loads)
            self.assertEqual([found, nexts], [[[0, 1, 2], [0, 2, 1], [1, 1, 1]], [0, 2, 1]])
            found[0].append(1)
            found.append(1)
            nexts.append(1)
            same = next_loads(THREE, (1, 1, 0), [0, 2, 1])
            same.append(1)
        asked = [0, 2, 1]
        self.assertIsNot(next_loads(THREE, (1, 1, 0), asked), asked)
        self.assertEqual([loads, asked], [before, [0, 2, 1]])
        self.assertEqual(THREE, Cluster([(0, 2), (1, 2), (1, 2)], RING))


if __name__ == "__main__":
    unittest.main()
