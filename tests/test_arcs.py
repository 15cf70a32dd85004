"""Givers, takers, arcs and ways [2] [3] [40]."""

import itertools
import unittest

from leadswitch.arcs import arcs, first_way, givers, reached, reaching, takers
from leadswitch.clusters import Cluster
from worlds import RING, great_cluster, great_ring, loads_of, some_worlds

WORLDS = some_worlds(40, 200, sizes=(2, 3, 4, 5))


def defined_arcs(cluster, leads):
    found = []
    for number, (first, second, partitions) in zip(leads, cluster.bundles()):
        if not cluster.is_rigid(first) and not cluster.is_rigid(second):
            found += [(first, second)] * (number > 0) + [(second, first)] * (number < partitions)
    return sorted(found)


def simple_ways(cluster, leads):
    """Return the list of all simple ways."""
    pairs = defined_arcs(cluster, leads)
    brokers = [broker for broker in range(cluster.size()) if not cluster.is_rigid(broker)]
    return [list(way) for many in range(1, len(brokers) + 1) for way in itertools.permutations(brokers, many)
            if all(pair in pairs for pair in zip(way, way[1:]))]


class GiversTest(unittest.TestCase):
    def test_against_the_definition(self):
        for cluster, leads in WORLDS:
            have = loads_of(cluster.size(), cluster.bundles(), leads)
            gives, takes = [], []
            for broker, (floor, ceiling) in enumerate(cluster.bounds()):
                if floor < ceiling:
                    gives += [broker] * (have[broker] > floor)
                    takes += [broker] * (have[broker] < ceiling)
            self.assertEqual([givers(cluster, leads), takers(cluster, leads)], [gives, takes])

    def test_at_the_bounds(self):
        for floor, ceiling, gives, takes in ((4, 4, False, False), (3, 4, True, False), (4, 5, False, True),
                                             (3, 5, True, True)):
            cluster = Cluster([(floor, ceiling), (5, 5)], [(0, 1, 9)])
            self.assertEqual(givers(cluster, (4,)), [0] * gives)
            self.assertEqual(takers(cluster, (4,)), [0][:takes])

    def test_brokers_without_bundles(self):
        cluster = Cluster([(0, 0), (0, 1), (0, 10 ** 30)], [])
        self.assertEqual([givers(cluster, ()), takers(cluster, ())], [[], [1, 2]])

    def test_the_greatest_counts(self):
        many = 10 ** 18
        for floor, ceiling, gives, takes in ((many, many + 1, [], [0, 1, 2]), (many - 1, many, [0, 1, 2], []),
                                             (many, many, [], []), (0, 10 ** 30, [0, 1, 2], [0, 1, 2])):
            cluster, leads = great_ring(floor, ceiling)
            self.assertEqual([givers(cluster, leads), takers(cluster, leads)], [gives, takes])


class ArcsTest(unittest.TestCase):
    def test_against_the_definition(self):
        for cluster, leads in WORLDS:
            self.assertEqual(arcs(cluster, leads), defined_arcs(cluster, leads))

    def test_leads_at_their_ends(self):
        cluster = Cluster([(0, 9)] * 3, [(1, 2, 3), (0, 1, 3)])
        self.assertEqual(arcs(cluster, (0, 0)), [(1, 0), (2, 1)])
        self.assertEqual(arcs(cluster, (3, 3)), [(0, 1), (1, 2)])
        self.assertEqual(arcs(cluster, (1, 2)), [(0, 1), (1, 0), (1, 2), (2, 1)])

    def test_rigid_brokers_have_none(self):
        self.assertEqual(arcs(Cluster([(2, 2), (0, 9), (0, 9)], [(0, 1, 3), (1, 2, 3), (0, 2, 2)]), (1, 1, 1)),
                         [(1, 2), (2, 1)])
        self.assertEqual(arcs(Cluster([(1, 1), (0, 9)], [(0, 1, 2)]), (1,)), [])

    def test_all_of_ten_brokers(self):
        cluster, leads = great_cluster()
        # The first bundle of this cluster is led by its second broker alone.
        self.assertEqual(arcs(cluster, leads), sorted(itertools.permutations(range(10), 2))[1:])


class WaysTest(unittest.TestCase):
    def test_reached_and_reaching_against_the_definition(self):
        for cluster, leads in WORLDS:
            ways = simple_ways(cluster, leads)
            for many in range(cluster.size() + 1):
                for brokers in itertools.combinations(range(cluster.size()), many):
                    self.assertEqual(reached(cluster, leads, list(brokers)),
                                     sorted({way[-1] for way in ways if way[0] in brokers}))
                    self.assertEqual(reaching(cluster, leads, list(brokers)),
                                     sorted({way[0] for way in ways if way[-1] in brokers}))

    def test_first_way_against_the_definition(self):
        for cluster, leads in WORLDS:
            ways = simple_ways(cluster, leads)
            for one in range(cluster.size()):
                for other in range(cluster.size()):
                    fitting = [way for way in ways if (way[0], way[-1]) == (one, other)]
                    expected = min(fitting, key=lambda way: (len(way), way), default=None)
                    self.assertEqual(first_way(cluster, leads, one, other), expected)

    def test_first_of_the_shortest(self):
        cluster = Cluster([(0, 9)] * 6, [(0, 4, 1), (0, 3, 1), (3, 5, 1), (4, 5, 1), (1, 2, 1), (0, 1, 1), (2, 5, 1)])
        self.assertEqual(first_way(cluster, (1,) * 7, 0, 5), [0, 3, 5])
        self.assertEqual(first_way(cluster, (1, 0, 1, 1, 1, 1, 1), 0, 5), [0, 4, 5])
        self.assertEqual(first_way(cluster, (0, 0, 1, 1, 1, 1, 1), 0, 5), [0, 1, 2, 5])
        self.assertIsNone(first_way(cluster, (1,) * 7, 5, 0))

    def test_a_broker_and_itself(self):
        cluster = Cluster([(0, 9), (1, 1), (0, 9)], [(0, 1, 1)])
        self.assertEqual([first_way(cluster, (0,), broker, broker) for broker in range(3)], [[0], None, [2]])
        self.assertEqual([reached(cluster, (0,), [broker]) for broker in range(3)], [[0], [], [2]])
        self.assertEqual([reaching(cluster, (0,), [0, 1]), reaching(cluster, (0,), [])], [[0], []])

    def test_ten_brokers(self):
        cluster, leads = great_cluster()
        self.assertEqual(reached(cluster, leads, [3]), list(range(10)))
        self.assertEqual(reaching(cluster, leads, [7, 9]), list(range(10)))
        self.assertEqual(first_way(cluster, leads, 0, 1), [0, 2, 1])
        self.assertEqual(first_way(cluster, leads, 9, 0), [9, 0])


class SameTest(unittest.TestCase):
    def told(self, cluster, leads, brokers):
        return [givers(cluster, leads), takers(cluster, leads), arcs(cluster, leads), reached(cluster, leads, brokers),
                reaching(cluster, leads, brokers), first_way(cluster, leads, 0, 2)]

    def test_nothing_changes_and_lists_are_new(self):
        one, other, leads, brokers = Cluster([(0, 2)] * 3, RING), Cluster([(1, 2)] * 3, RING), (1, 1, 0), [0, 1]
        first, second = self.told(one, leads, brokers), self.told(other, leads, brokers)
        self.assertNotEqual(first, second)
        for cluster, expected in ((one, first), (other, second), (one, first)):
            for found in self.told(cluster, leads, brokers):
                found.append(0)
            self.assertEqual(self.told(cluster, leads, brokers), expected)
        self.assertEqual([one, other, brokers], [Cluster([(0, 2)] * 3, RING), Cluster([(1, 2)] * 3, RING), [0, 1]])


if __name__ == "__main__":
    unittest.main()
