"""Frozen bundles, their bars, and what frees them [2] [3] [6] [41] [42] [43]."""

import copy
import itertools
import unittest

from leadswitch.clusters import Cluster
from leadswitch.frozen import bar, freeing, frozen, high_set, is_bar, low_set
from values import Agreeing, any_values, no_integers
from worlds import RING, great_cluster, great_ring, loads_of, moving, some_worlds

WORLDS = some_worlds(41, 300)
LOW = Cluster([(1, 2)] * 3, RING)
HIGH = Cluster([(0, 1)] * 3, RING)
LEADS = (1, 1, 0)


def sets(size):
    return [list(members) for many in range(1, size + 1) for members in itertools.combinations(range(size), many)]


def is_defined_low(cluster, leads, members, high=False):
    """Return whether members is a low set, or a high one."""
    have = loads_of(cluster.size(), cluster.bundles(), leads)
    for broker in members:
        floor, ceiling = cluster.bounds()[broker]
        if floor == ceiling or have[broker] != (ceiling if high else floor):
            return False
    for number, (first, second, partitions) in zip(leads, cluster.bundles()):
        for one, other, led in ((first, second, number), (second, first, partitions - number)):
            tail, head = (other, one) if high else (one, other)
            if led and tail not in members and head in members and not cluster.is_rigid(tail):
                return False
    return True


def low_sets(cluster, leads, high=False):
    return [members for members in sets(cluster.size()) if is_defined_low(cluster, leads, members, high)]


def defined_bars(cluster, leads, bundle):
    """Return the list of all bars of a bundle."""
    ends = cluster.bundles()[bundle][:2]
    found = [("rigid", broker) for broker in ends if cluster.is_rigid(broker)]
    for kind, high in (("low", False), ("high", True)):
        found += [(kind, members) for members in low_sets(cluster, leads, high)
                  if ends[0] in members or ends[1] in members]
    return found


class SetsTest(unittest.TestCase):
    def test_the_greatest_ones(self):
        for cluster, leads in WORLDS:
            self.assertEqual(low_set(cluster, leads), max(low_sets(cluster, leads), key=len, default=[]))
            self.assertEqual(high_set(cluster, leads), max(low_sets(cluster, leads, True), key=len, default=[]))

    def test_they_contain_all_other_ones(self):
        for cluster, leads in WORLDS:
            for members in low_sets(cluster, leads):
                self.assertLessEqual(set(members), set(low_set(cluster, leads)))
            for members in low_sets(cluster, leads, True):
                self.assertLessEqual(set(members), set(high_set(cluster, leads)))

    def test_rings_at_floors_and_ceilings(self):
        self.assertEqual([low_set(LOW, LEADS), high_set(LOW, LEADS)], [[0, 1, 2], []])
        self.assertEqual([low_set(HIGH, LEADS), high_set(HIGH, LEADS)], [[], [0, 1, 2]])

    def test_empty_ones(self):
        for cluster in (Cluster([(0, 2)] * 3, RING), Cluster([(1, 1)] * 3, RING)):
            self.assertEqual([low_set(cluster, LEADS), high_set(cluster, LEADS)], [[], []])

    def test_brokers_without_bundles(self):
        cluster = Cluster([(0, 0), (0, 1), (0, 3)], [])
        self.assertEqual([low_set(cluster, ()), high_set(cluster, ())], [[1, 2], []])
        cluster = Cluster([(1, 5), (1, 2), (0, 2)], [(0, 1, 4)])
        self.assertEqual([low_set(cluster, (2,)), high_set(cluster, (2,))], [[2], []])

    def test_a_set_that_is_shielded_by_its_leads(self):
        cluster = Cluster([(0, 9), (1, 2), (1, 2), (1, 2)], [(1, 2, 1), (2, 3, 1), (1, 3, 1), (0, 1, 2)])
        self.assertEqual(low_set(cluster, (1, 1, 0, 0)), [])
        cluster = cluster.bounded(1, 3, 4)
        self.assertEqual(low_set(cluster, (1, 1, 0, 0)), [0, 1, 2, 3])
        cluster = Cluster([(0, 9), (3, 4), (1, 2), (1, 2)], [(1, 2, 1), (2, 3, 1), (1, 3, 1), (0, 1, 2)])
        self.assertEqual(low_set(cluster.grown(0, 1, 1), (1, 1, 0, 1)), [])
        self.assertEqual(high_set(cluster.bounded(0, 0, 1), (1, 1, 0, 0)), [])


class FrozenTest(unittest.TestCase):
    def test_what_plans_never_switch(self):
        some = 0
        for cluster, leads in WORLDS:
            moved = moving(cluster, leads)
            still = [at for at in range(len(cluster)) if at not in moved]
            some += 0 < len(still) < len(cluster)
            self.assertEqual(frozen(cluster, leads), still)
        self.assertGreater(some, 20)

    def test_rigid_brokers(self):
        self.assertEqual(frozen(Cluster([(1, 1), (0, 9), (0, 9)], RING), LEADS), [0, 2])
        self.assertEqual(frozen(Cluster([(1, 1), (1, 1), (0, 9)], RING), LEADS), [0, 1, 2])
        self.assertEqual(frozen(Cluster([(0, 9)] * 3, RING), LEADS), [])
        self.assertEqual(frozen(Cluster([(0, 0)] * 2, []), ()), [])

    def test_rings_of_the_greatest_counts(self):
        many = 10 ** 18
        for floor, ceiling, still in ((many, 2 * many, [0, 1, 2]), (0, many, [0, 1, 2]), (many - 1, many + 1, []),
                                      (0, 10 ** 30, []), (many, many, [0, 1, 2])):
            cluster, leads = great_ring(floor, ceiling)
            self.assertEqual(frozen(cluster, leads), still)
        self.assertEqual(frozen(*great_cluster()), [])


class BarTest(unittest.TestCase):
    def test_against_the_definition(self):
        kinds = []
        for cluster, leads in WORLDS:
            still = frozen(cluster, leads)
            for bundle in range(len(cluster)):
                found = bar(cluster, leads, bundle)
                bars = defined_bars(cluster, leads, bundle)
                self.assertEqual(found is None, bundle not in still)
                if found is None:
                    self.assertEqual(bars, [])
                    continue
                kinds.append(found[0])
                order = {"rigid": 0, "low": 1, "high": 2}
                best = min(bars, key=lambda one: (order[one[0]], one[1] if one[0] == "rigid" else -len(one[1])))
                self.assertEqual(found, best)
        self.assertTrue(all(kinds.count(kind) > 5 for kind in ("rigid", "low", "high")))

    def test_which_are_bars(self):
        for cluster, leads in WORLDS:
            things = [("rigid", broker) for broker in range(-1, cluster.size() + 1)]
            things += [(kind, members) for kind in ("low", "high") for members in sets(cluster.size())]
            for bundle in range(len(cluster)):
                bars = defined_bars(cluster, leads, bundle)
                for thing in things:
                    self.assertIs(is_bar(cluster, leads, bundle, thing), thing in bars)

    def test_the_order_of_the_kinds(self):
        cluster = Cluster([(1, 2), (1, 2), (1, 2), (0, 0), (2, 2)], RING + [(0, 4, 1), (3, 4, 1)])
        leads = (1, 1, 0, 0, 0)
        self.assertEqual([bar(cluster, leads, bundle) for bundle in range(5)],
                         [("low", [0, 1, 2])] * 3 + [("rigid", 4), ("rigid", 3)])
        self.assertEqual(bar(Cluster([(0, 1), (1, 2), (1, 2)], [(1, 2, 2)]), (1,), 0), ("low", [0, 1, 2]))
        both = Cluster([(1, 2), (0, 1)], [(0, 1, 1)])
        self.assertEqual(bar(both, (1,), 0), ("low", [0, 1]))
        both = Cluster([(0, 1), (0, 1)], [(0, 1, 1)])
        self.assertIsNone(bar(both, (1,), 0))
        both = Cluster([(1, 2), (0, 1), (0, 1)], [(0, 1, 1), (1, 2, 1)])
        self.assertEqual([bar(both, (1, 1), 0), bar(both, (1, 1), 1)], [("low", [0]), None])

    def test_any_values(self):
        for thing in any_values():
            self.assertIs(is_bar(LOW, LEADS, 0, thing), False)
            self.assertIs(is_bar(LOW, LEADS, 0, (thing, [0, 1, 2])), False)
            for kind in ("low", "high", "rigid"):
                self.assertIs(is_bar(LOW, LEADS, 0, (kind, thing)), False)
                expected = kind == "low" and thing == 0 and thing is not False
                self.assertIs(is_bar(LOW, LEADS, 0, (kind, [thing, 1, 2])), expected)
        rigid = Cluster([(1, 1)] * 3, RING)
        for thing in no_integers():
            self.assertIs(is_bar(rigid, LEADS, 0, ("rigid", thing)), False)

    def test_other_forms(self):
        self.assertIs(is_bar(LOW, LEADS, 0, ("low", [0, 1, 2])), True)
        for thing in (["low", [0, 1, 2]], ("low", (0, 1, 2)), ("low", [2, 1, 0]), ("low", [0, 1, 1, 2]),
                      ("low", [0, 1, 2], 0), ("low",), ("Low", [0, 1, 2]), ("high", [0, 1, 2]), ("low", []),
                      ("high", []), ("low", [0, 1]), ("low", [0, 1, 2, 3]), (Agreeing(), [0, 1, 2]),
                      (b"low", [0, 1, 2]), ("lo", [0, 1, 2]), ("rigid", 0), ("rigid", [0])):
            with self.subTest(thing=thing):
                self.assertIs(is_bar(LOW, LEADS, 0, thing), False)
        self.assertIs(is_bar(HIGH, LEADS, 0, ("high", [0, 1, 2])), True)
        for kind in ("low", "rigid", "High", "", "hi", Agreeing()):
            self.assertIs(is_bar(HIGH, LEADS, 0, (kind, [0, 1, 2])), False)

    def test_rigid_ones(self):
        cluster = Cluster([(1, 1), (0, 3), (0, 3)], RING)
        self.assertIs(is_bar(cluster, LEADS, 0, ("rigid", 0)), True)
        for broker in (1, 2, 3, -1, -3, True, False, 10 ** 41):
            self.assertIs(is_bar(cluster, LEADS, 0, ("rigid", broker)), False)
        self.assertIs(is_bar(cluster, LEADS, 1, ("rigid", 0)), False)
        self.assertIs(is_bar(cluster, LEADS, 0, (Agreeing(), 0)), False)

    def test_a_set_away_from_the_bundle(self):
        cluster = Cluster([(1, 2)] * 3 + [(0, 9)] * 2, RING + [(3, 4, 2)])
        self.assertIs(is_bar(cluster, LEADS + (1,), 3, ("low", [0, 1, 2])), False)
        self.assertIs(is_bar(cluster, LEADS + (1,), 2, ("low", [0, 1, 2])), True)

    def test_the_greatest_counts(self):
        many = 10 ** 18
        cluster, leads = great_ring(many, 2 * many)
        self.assertEqual(bar(cluster, leads, 2), ("low", [0, 1, 2]))
        cluster, leads = great_ring(0, many)
        self.assertEqual(bar(cluster, leads, 2), ("high", [0, 1, 2]))


class FreeingTest(unittest.TestCase):
    def test_against_the_definition(self):
        some = 0
        for cluster, leads in WORLDS[:150]:
            for bundle in range(len(cluster)):
                found = []
                if bundle not in moving(cluster, leads):
                    for broker, (floor, ceiling) in enumerate(cluster.bounds()):
                        if bundle in moving(cluster.bounded(broker, floor, ceiling + 1), leads):
                            found.append(("ceiling", broker))
                        if floor and bundle in moving(cluster.bounded(broker, floor - 1, ceiling), leads):
                            found.append(("floor", broker))
                some += len(found) > 1
                self.assertEqual(freeing(cluster, leads, bundle), sorted(found))
        self.assertGreater(some, 10)

    def test_floors_and_ceilings_together_in_order(self):
        # The broker 3 stands between the ring, which is at its floors, and the giver 4.
        cluster = Cluster([(1, 2), (1, 2), (1, 2), (1, 1), (0, 9)], RING + [(0, 3, 1), (3, 4, 2)])
        self.assertEqual(freeing(cluster, (1, 1, 0, 0, 0), 0),
                         [("ceiling", 3), ("floor", 0), ("floor", 1), ("floor", 2), ("floor", 3)])

    def test_floors_of_0(self):
        cluster = Cluster([(0, 1), (1, 2), (0, 1)], [(0, 2, 1), (1, 2, 1)])
        self.assertEqual(freeing(cluster, (1, 1), 0), [])
        low = Cluster([(0, 1), (0, 1)], [(0, 1, 1)])
        self.assertEqual(freeing(low, (1,), 0), [])
        alone = Cluster([(0, 0), (1, 1)], [(0, 1, 1)])
        self.assertEqual(freeing(alone, (0,), 0), [])
        self.assertEqual(freeing(Cluster([(0, 0), (0, 1)], [(0, 1, 1)]), (0,), 0), [("ceiling", 0)])
        self.assertEqual(freeing(Cluster([(0, 1), (1, 1)], [(0, 1, 1)]), (0,), 0), [("floor", 1)])

    def test_ceilings_of_10_to_the_30(self):
        most = 10 ** 30
        self.assertEqual(freeing(Cluster([(2, most), (0, most)], [(0, 1, 2)]), (2,), 0), [("floor", 0)])
        self.assertEqual(freeing(Cluster([(0, most), (0, most)], [(0, 1, 2)]), (2,), 0), [])
        self.assertEqual(freeing(Cluster([(2, 2), (0, most)], [(0, 1, 2)]), (2,), 0), [("floor", 0)])
        self.assertEqual(freeing(Cluster([(0, 0), (1, most)], [(0, 1, 2)]), (0,), 0), [("ceiling", 0)])

    def test_rings_of_the_greatest_counts(self):
        many = 10 ** 18
        cluster, leads = great_ring(many, 2 * many)
        self.assertEqual(freeing(cluster, leads, 1), [("floor", 0), ("floor", 1), ("floor", 2)])
        cluster, leads = great_ring(0, many)
        self.assertEqual(freeing(cluster, leads, 1), [("ceiling", 0), ("ceiling", 1), ("ceiling", 2)])
        cluster, leads = great_ring(many, many)
        self.assertEqual(freeing(cluster, leads, 1), [])
        cluster, leads = great_ring(many - 1, many + 1)
        self.assertEqual(freeing(cluster, leads, 1), [])


class SameTest(unittest.TestCase):
    def told(self, cluster):
        return [low_set(cluster, LEADS), high_set(cluster, LEADS), frozen(cluster, LEADS), bar(cluster, LEADS, 0)[1],
                freeing(cluster, LEADS, 0)]

    def test_nothing_changes_and_lists_are_new(self):
        first, second = self.told(LOW), self.told(HIGH)
        for cluster, expected in ((LOW, first), (HIGH, second), (LOW, first)):
            for found in self.told(cluster):
                found.append(0)
            self.assertEqual(self.told(cluster), expected)
        thing = ("low", [0, 1, 2])
        before = copy.deepcopy(thing)
        self.assertEqual([is_bar(LOW, LEADS, 0, thing), is_bar(HIGH, LEADS, 0, thing)], [True, False])
        self.assertEqual([thing, LOW, HIGH], [before, Cluster([(1, 2)] * 3, RING), Cluster([(0, 1)] * 3, RING)])


if __name__ == "__main__":
    unittest.main()
