"""Single switches [2] [3] [5] [30]."""

import unittest

from leadswitch.clusters import Cluster
from leadswitch.errors import LeadError, NoBundle, NotLegal
from leadswitch.switches import is_legal, legal, switch
from worlds import RING, next_leads, some_worlds

WORLDS = some_worlds(30, 150)


def other_pairs(size):
    return [(one, other) for one in range(size) for other in range(size) if one != other]


class SwitchesTest(unittest.TestCase):
    def test_against_the_definition(self):
        for cluster, leads in WORLDS:
            expected = next_leads(cluster, leads)
            self.assertEqual(legal(cluster, leads), sorted(expected))
            for one, other in other_pairs(cluster.size()):
                self.assertIs(is_legal(cluster, leads, one, other), (one, other) in expected)
                if (one, other) in expected:
                    self.assertEqual(switch(cluster, leads, one, other), expected[(one, other)])

    def test_each_condition_alone(self):
        rows = [(0, 1, 5)]
        for bounds, leads, found in (
            ([(0, 9), (0, 9)], (2,), [(0, 1), (1, 0)]),
            ([(0, 9), (0, 9)], (0,), [(1, 0)]),
            ([(0, 9), (0, 9)], (5,), [(0, 1)]),
            ([(2, 9), (0, 9)], (2,), [(1, 0)]),
            ([(0, 2), (0, 9)], (2,), [(0, 1)]),
            ([(0, 9), (3, 9)], (2,), [(0, 1)]),
            ([(0, 9), (0, 3)], (2,), [(1, 0)]),
            ([(2, 9), (3, 9)], (2,), []),
            ([(0, 2), (0, 3)], (2,), []),
            ([(2, 2), (0, 9)], (2,), []),
            ([(0, 9), (3, 3)], (2,), []),
        ):
            with self.subTest(bounds=bounds, leads=leads):
                self.assertEqual(legal(Cluster(bounds, rows), leads), found)

    def test_brokers_without_a_bundle(self):
        cluster = Cluster([(0, 5), (0, 5), (0, 5)], [(0, 1, 2)])
        for one, other in ((0, 2), (2, 0), (1, 2), (2, 1)):
            self.assertIs(is_legal(cluster, (1,), one, other), False)
            with self.assertRaises(NoBundle) as caught:
                switch(cluster, (1,), one, other)
            self.assertEqual((caught.exception.one, caught.exception.other), (one, other))
        self.assertEqual(legal(Cluster([(0, 0), (0, 5)], []), ()), [])

    def test_a_switch_that_is_not_legal(self):
        for cluster, leads in WORLDS:
            expected = next_leads(cluster, leads)
            for one, other in other_pairs(cluster.size()):
                if (one, other) not in expected:
                    error = NoBundle if cluster.bundle_of(one, other) is None else NotLegal
                    with self.assertRaises(LeadError) as caught:
                        switch(cluster, leads, one, other)
                    self.assertIs(caught.exception.__class__, error)

    def test_a_legal_switch_can_be_taken_back(self):
        for cluster, leads in WORLDS:
            for one, other in legal(cluster, leads):
                after = switch(cluster, leads, one, other)
                self.assertIs(is_legal(cluster, after, other, one), True)
                self.assertEqual(switch(cluster, after, other, one), leads)

    def test_ascending_order_whatever_the_order_of_the_bundles(self):
        cluster = Cluster([(0, 9)] * 4, [(2, 3, 2), (0, 2, 2), (1, 2, 2), (0, 1, 2)])
        self.assertEqual(legal(cluster, (1, 1, 1, 1)),
                         [(0, 1), (0, 2), (1, 0), (1, 2), (2, 0), (2, 1), (2, 3), (3, 2)])

    def test_the_greatest_counts(self):
        many = 10 ** 18
        cluster = Cluster([(1, many), (0, many - 1)], [(0, 1, many)])
        self.assertEqual(legal(cluster, (many,)), [(0, 1)])
        self.assertEqual(switch(cluster, (many,), 0, 1), (many - 1,))
        self.assertEqual(switch(cluster, (many - 1,), 1, 0), (many,))
        self.assertEqual(legal(cluster, (1,)), [(1, 0)])

    def test_nothing_changes_and_lists_are_new(self):
        one, other = Cluster([(0, 2)] * 3, RING), Cluster([(0, 3)] * 3, RING)
        for cluster in (one, other, one):
            found = legal(cluster, (1, 1, 0))
            self.assertEqual(found, [(0, 1), (1, 2), (2, 0)])
            found.append(1)
            self.assertEqual(legal(cluster, (1, 1, 0)), [(0, 1), (1, 2), (2, 0)])
            self.assertEqual(switch(cluster, (1, 1, 0), 2, 0), (1, 1, 1))
        self.assertEqual([one, other], [Cluster([(0, 2)] * 3, RING), Cluster([(0, 3)] * 3, RING)])


if __name__ == "__main__":
    unittest.main()
