"""The fairest loads, the least peak and the greatest dip [3] [11] [80] [81]."""

import unittest

from leadswitch.arcs import first_way, reached
from leadswitch.clusters import Cluster
from leadswitch.extremes import best
from leadswitch.fairest import chain, fairest, greatest_dip, is_fairest, least_peak
from leadswitch.nearest import is_never, to_ranges
from leadswitch.reach import decide
from worlds import RING, abouts, anew, distances, great_ring, great_worlds, loads_of, wide_worlds

WORLDS = wide_worlds(110, 160)
GREAT = great_worlds(111, 60)
MANY, MOST = 10 ** 18, 10 ** 30
ROW = Cluster([(0, 9), (0, 9), (0, 9)], [(0, 1, 3), (1, 2, 3)])


def loads_at(cluster, leads):
    return loads_of(cluster.size(), cluster.bundles(), leads)


def squares(loads):
    return sum(load * load for load in loads)


def defined_chain(cluster, leads):
    have, pairs = loads_at(cluster, leads), []
    for one, (floor, ceiling) in enumerate(cluster.bounds()):
        if floor < ceiling and have[one] > floor:
            for other in reached(cluster, leads, [one]):
                if have[other] < cluster.ceiling(other) and have[one] - have[other] >= 2:
                    pairs.append((have[other] - have[one], one, other))
    if not pairs:
        return None
    _, one, other = min(pairs)
    return first_way(cluster, leads, one, other)


class ChainTest(unittest.TestCase):
    def test_against_the_definition(self):
        nones = 0
        for cluster, leads in WORLDS + GREAT:
            found = chain(cluster, leads)
            nones += found is None
            self.assertEqual(found, defined_chain(cluster, leads))
        self.assertTrue(50 < nones < len(WORLDS) - 50)

    def test_none_exactly_if_fairest(self):
        for cluster, leads in WORLDS:
            least = min(squares(loads) for loads in abouts(cluster, leads))
            is_least = squares(loads_at(cluster, leads)) == least
            self.assertIs(chain(cluster, leads) is None, is_least)
            self.assertIs(is_fairest(cluster, leads), is_least)

    def test_a_difference_of_1_and_of_2(self):
        pair = Cluster([(0, 9), (0, 9)], [(0, 1, 9)])
        self.assertEqual([chain(pair, (number,)) for number in (3, 4, 5, 6)], [[1, 0], None, None, [0, 1]])
        pair = Cluster([(0, 9), (0, 9)], [(0, 1, 8)])
        self.assertEqual([chain(pair, (number,)) for number in (3, 4, 5)], [[1, 0], None, [0, 1]])

    def test_the_greatest_difference_and_the_first_pair(self):
        star = Cluster([(0, 99)] * 4, [(0, 1, 9), (0, 2, 9), (0, 3, 9), (2, 3, 9)])
        self.assertEqual(chain(star, (9, 9, 9, 9)), [0, 1])
        self.assertEqual(chain(star, (8, 9, 9, 9)), [0, 3])
        self.assertEqual(chain(star.bounded(1, 0, 0), (9, 9, 9, 9)), [0, 3])
        self.assertEqual(chain(star, (0, 0, 0, 0)), [3, 0])
        self.assertEqual(chain(star, (0, 0, 0, 4)), [3, 0])
        self.assertEqual(chain(star, (0, 0, 0, 5)), [2, 0])
        self.assertEqual(chain(star.bounded(3, 13, 99), (0, 0, 0, 5)), [2, 0])

    def test_givers_and_takers_alone(self):
        # Broker 0 is at its floor, or broker 2 at its ceiling; 1 hands on also at its bounds.
        self.assertEqual(chain(ROW, (3, 3)), [0, 1, 2])
        self.assertEqual(chain(ROW.bounded(0, 3, 9), (3, 3)), [1, 2])
        self.assertEqual(chain(ROW.bounded(2, 0, 0), (3, 3)), None)
        self.assertEqual(chain(ROW.bounded(1, 3, 4), (3, 3)), [0, 1, 2])
        self.assertEqual(chain(ROW.bounded(1, 2, 3), (3, 3)), [0, 1, 2])
        self.assertEqual(chain(ROW.bounded(1, 3, 3), (3, 3)), None)

    def test_a_ring_at_its_floors(self):
        ring, leads = great_ring(MANY, MOST)
        self.assertIsNone(chain(ring, leads))
        ring, leads = great_ring(0, MOST)
        self.assertEqual(chain(ring, (MANY, MANY, MANY)), [0, 2])
        self.assertEqual(chain(ring, (leads[0] + 1, leads[1], leads[2])), [0, 1])
        self.assertIsNone(chain(ring, (MANY // 2, MANY // 2, MANY // 2)))


class FairestTest(unittest.TestCase):
    def check(self, cluster, leads):
        """Check that a plan leads to what is found, and that it is fairest, and return its loads."""
        goal = fairest(cluster, leads)
        self.assertIsInstance(goal, tuple)
        self.assertEqual(decide(cluster, leads, goal)[0], "plan")
        self.assertIs(is_fairest(cluster, goal), True)
        self.assertIsNone(defined_chain(cluster, goal))
        return loads_at(cluster, goal)

    def test_against_a_search(self):
        for cluster, leads in WORLDS:
            loads = self.check(cluster, leads)
            self.assertEqual(squares(loads), min(squares(each) for each in abouts(cluster, leads)))
            self.assertIn(fairest(cluster, leads), distances(cluster, leads))

    def test_great_counts(self):
        for cluster, leads in GREAT:
            self.check(cluster, leads)
        ring, leads = great_ring(0, MOST)
        for leads in (leads, (MANY, MANY, MANY), (0, 0, 0), (MANY, 0, 1)):
            self.assertEqual(self.check(ring, leads), [MANY] * 3)
        less = Cluster(ring.bounds(), [(0, 1, MANY), (1, 2, MANY), (0, 2, MANY - 1)])
        self.assertEqual(sorted(self.check(less, (MANY, MANY, 0))), [MANY - 1, MANY, MANY])

    def test_frozen_bundles_stay_as_they_are(self):
        low = Cluster([(1, 2)] * 3 + [(0, 9), (0, 9)], RING + [(3, 4, 6)])
        self.assertEqual(self.check(low, (1, 1, 0, 6)), [1, 1, 1, 3, 3])
        self.assertEqual(fairest(low, (1, 1, 0, 6)), (1, 1, 0, 3))
        self.assertEqual(fairest(low, (0, 0, 1, 6)), (0, 0, 1, 3))
        cluster = Cluster([(0, 9), (5, 5), (0, 9)], [(0, 1, 5), (1, 2, 5), (0, 2, 2)])
        self.assertEqual(fairest(cluster, (3, 3, 2)), (3, 3, 1))

    def test_bounds_that_bind(self):
        star = Cluster([(5, 9), (0, 1), (0, 9), (0, 9)], [(0, 1, 6), (0, 2, 6), (0, 3, 6)])
        self.assertEqual(sorted(self.check(star, (6, 1, 2))), [1, 5, 6, 6])
        self.assertEqual(self.check(star.bounded(0, 9, 9), (6, 1, 2)), [9, 0, 5, 4])
        self.assertEqual(self.check(star.bounded(0, 8, 9), (6, 1, 2)), [8, 1, 5, 4])
        # All could have 2, broker 0 not more, and one is left over.
        ring = Cluster([(0, 2), (0, 9), (0, 9)], [(0, 1, 3), (1, 2, 2), (0, 2, 2)])
        for leads in ((1, 1, 1), (0, 2, 0), (2, 0, 0), (0, 0, 2)):
            self.assertEqual(self.check(ring, leads)[0], 2)
        ends = Cluster([(0, 99)] * 4, [(0, 1, 2), (1, 2, 2), (2, 3, 60)])
        self.assertEqual(self.check(ends, (2, 2, 60)), [2, 2, 30, 30])
        self.assertEqual(self.check(ends, (0, 0, 0)), [2, 2, 30, 30])

    def test_rigid_brokers_and_no_bundles(self):
        self.assertEqual(fairest(Cluster([(1, 1), (1, 1)], [(0, 1, 2)]), (1,)), (1,))
        self.assertIs(is_fairest(Cluster([(0, 0), (2, 2)], [(0, 1, 2)]), (0,)), True)
        self.assertIs(is_fairest(Cluster([(0, 1), (2, 2)], [(0, 1, 2)]), (0,)), True)
        self.assertIs(is_fairest(Cluster([(0, 1), (1, 2)], [(0, 1, 2)]), (0,)), False)
        self.assertEqual(fairest(Cluster([(0, 1), (0, 0)], []), ()), ())


class PeakAndDipTest(unittest.TestCase):
    def check_peak(self, cluster, leads):
        told = least_peak(cluster, leads)
        self.assertEqual((told.__class__, len(told), len(told[1])), (tuple, 2, 2))
        number, (word, what) = told
        below = [(floor, min(ceiling, number - 1)) for floor, ceiling in cluster.bounds()]
        if any(floor >= number for floor, _ in cluster.bounds()):
            self.assertEqual([word, cluster.floor(what)], ["broker", number])
        else:
            self.assertEqual(word, "never")
            self.assertIs(is_never(cluster, leads, below, what), True)
        return number

    def check_dip(self, cluster, leads):
        told = greatest_dip(cluster, leads)
        self.assertEqual((told.__class__, len(told), len(told[1])), (tuple, 2, 2))
        number, (word, what) = told
        above = [(max(floor, number + 1), ceiling) for floor, ceiling in cluster.bounds()]
        if any(ceiling <= number for _, ceiling in cluster.bounds()):
            self.assertEqual([word, cluster.ceiling(what)], ["broker", number])
        else:
            self.assertEqual(word, "never")
            self.assertIs(is_never(cluster, leads, above, what), True)
        return number

    def test_against_a_search(self):
        words = []
        for cluster, leads in WORLDS:
            found = abouts(cluster, leads)
            self.assertEqual(self.check_peak(cluster, leads), min(max(loads) for loads in found))
            self.assertEqual(self.check_dip(cluster, leads), max(min(loads) for loads in found))
            fair = loads_at(cluster, fairest(cluster, leads))
            self.assertEqual([max(fair), min(fair)], [least_peak(cluster, leads)[0], greatest_dip(cluster, leads)[0]])
            words += [least_peak(cluster, leads)[1][0] + "+", greatest_dip(cluster, leads)[1][0] + "-"]
        self.assertTrue(all(words.count(word) > 50 for word in ("broker+", "never+", "broker-", "never-")))

    def test_great_counts(self):
        for cluster, leads in GREAT:
            number = self.check_peak(cluster, leads)
            if all(floor <= number for floor, _ in cluster.bounds()):
                ranges = [(floor, min(ceiling, number)) for floor, ceiling in cluster.bounds()]
                self.assertEqual(to_ranges(cluster, leads, ranges)[0], "plan")
            number = self.check_dip(cluster, leads)
            ranges = [(max(floor, number), ceiling) for floor, ceiling in cluster.bounds()]
            self.assertEqual(to_ranges(cluster, leads, ranges)[0], "plan")
        ring, _ = great_ring(0, MOST)
        for leads in ((MANY, MANY, MANY), (0, 0, 0), (MANY, 0, 1)):
            self.assertEqual([self.check_peak(ring, leads), self.check_dip(ring, leads)], [MANY, MANY])
        ring, leads = great_ring(MANY, MANY + 1)
        self.assertEqual([self.check_peak(ring, leads), self.check_dip(ring, leads)], [MANY, MANY])

    def test_papers(self):
        pair = Cluster([(0, 9), (0, 9)], [(0, 1, 7)])
        self.assertEqual([least_peak(pair, (7,)), greatest_dip(pair, (7,))],
                         [(4, ("never", [0, 1])), (3, ("never", [0, 1]))])
        self.assertEqual(least_peak(pair.bounded(1, 5, 9), (2,)), (5, ("broker", 1)))
        self.assertEqual(greatest_dip(pair.bounded(1, 0, 2), (7,)), (2, ("broker", 1)))
        # The other broker is at its ceiling, or at its floor, but hands on what it gets.
        self.assertEqual(least_peak(pair.bounded(1, 0, 2), (7,)), (5, ("never", [0, 1])))
        self.assertEqual(greatest_dip(pair.bounded(1, 5, 9), (2,)), (2, ("never", [0, 1])))

    def test_rigid_brokers_and_no_bundles(self):
        alone = Cluster([(1, 1), (2, 2)], [(0, 1, 3)])
        self.assertEqual([least_peak(alone, (1,)), greatest_dip(alone, (1,))], [(2, ("broker", 1)), (1, ("broker", 0))])
        cluster = Cluster([(0, 9), (5, 5), (0, 9)], [(0, 1, 5), (1, 2, 5), (0, 2, 2)])
        self.assertEqual([least_peak(cluster, (3, 3, 1)), greatest_dip(cluster, (3, 3, 1))],
                         [(5, ("broker", 1)), (3, ("never", [0, 2]))])
        empty = Cluster([(0, 1), (0, 0)], [])
        self.assertEqual([least_peak(empty, ())[0], greatest_dip(empty, ())], [0, (0, ("broker", 1))])
        self.assertIn(least_peak(empty, ())[1], (("broker", 0), ("broker", 1)))
        self.assertEqual(greatest_dip(Cluster([(0, 1), (0, 2)], []), ()), (0, ("never", [0, 1])))


class SameTest(unittest.TestCase):
    def told(self, cluster, leads):
        return [chain(cluster, leads), is_fairest(cluster, leads), fairest(cluster, leads), least_peak(cluster, leads),
                greatest_dip(cluster, leads)]

    def test_two_leads_by_turns(self):
        cluster, one, other = ROW, (3, 2), (0, 0)
        first, second = self.told(cluster, one), self.told(cluster, other)
        self.assertNotEqual(first, second)
        for leads, expected in ((one, first), (other, second), (one, first), (other, second)):
            self.assertEqual(self.told(cluster, leads), expected)
        self.assertEqual(cluster, Cluster([(0, 9), (0, 9), (0, 9)], [(0, 1, 3), (1, 2, 3)]))

    def test_changed_clusters(self):
        for cluster, leads in WORLDS[:60] + GREAT[:5]:
            for changed in anew(cluster):
                self.assertEqual(self.told(changed, leads), self.told(cluster, leads))
        self.assertEqual(least_peak(ROW.bounded(0, 3, 9), (3, 2))[0], 3)
        self.assertEqual(least_peak(ROW.grown(1, 2, 8), (3, 2))[0], 6)

    def test_lists_are_new(self):
        for _ in range(2):
            found = [chain(ROW, (3, 2)), least_peak(ROW, (3, 2))[1][1], greatest_dip(ROW, (3, 2))[1][1]]
            self.assertEqual(found, [[0, 1, 2], [0, 1, 2], [0, 1, 2]])
            for each in found:
                each.append(9)


if __name__ == "__main__":
    unittest.main()
