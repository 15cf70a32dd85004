"""One partition more of a bundle, and what stops it [3] [4] [9] [53] [54]."""

import copy
import itertools
import unittest

from leadswitch.clusters import Cluster
from leadswitch.errors import NoBundle, NotLed
from leadswitch.onemore import fewest, is_stop, stop_of
from leadswitch.plans import is_plan, length, play
from values import Agreeing, any_values, no_integers
from worlds import RING, distances, great_cluster, great_ring, loads_of, sleeping_rings, some_worlds

WORLDS = some_worlds(53, 250, sizes=(2, 3, 4, 5)) + [world[:2] for world in sleeping_rings(54, 60, 1, 5, (1, 2))]
LOW = Cluster([(1, 2)] * 3, RING)
HIGH = Cluster([(0, 1)] * 3, RING)
LEADS = (1, 1, 0)


def led_pairs(cluster, leads):
    """Return tuples (one, other) of all bundles of which one leads a partition."""
    found = []
    for number, (first, second, partitions) in zip(leads, cluster.bundles()):
        found += [(first, second)] * (number > 0) + [(second, first)] * (number < partitions)
    return found


def sets(size):
    return [list(members) for many in range(size + 1) for members in itertools.combinations(range(size), many)]


def defined_stops(cluster, leads, one, other):
    """Return the list of all stops."""
    bounds, have = cluster.bounds(), loads_of(cluster.size(), cluster.bundles(), leads)
    rigid = [broker for broker, (floor, ceiling) in enumerate(bounds) if floor == ceiling]
    pairs = [pair for pair in led_pairs(cluster, leads)
             if pair[0] not in rigid and pair[1] not in rigid and set(pair) != {one, other}]
    found = [("rigid", broker) for broker in sorted((one, other)) if broker in rigid]
    for kind, inside in (("low", one), ("high", other)):
        for members in sets(cluster.size()):
            barred = [broker for broker in members
                      if broker in rigid or have[broker] != bounds[broker][0 if kind == "low" else 1]]
            if kind == "low":
                crossing = [pair for pair in pairs if pair[0] not in members and pair[1] in members]
            else:
                crossing = [pair for pair in pairs if pair[0] in members and pair[1] not in members]
            if inside in members and not barred and not crossing:
                found.append((kind, members))
    return found


class StopTest(unittest.TestCase):
    def test_against_the_definition(self):
        kinds = []
        for cluster, leads in WORLDS:
            for one, other in led_pairs(cluster, leads):
                stops = defined_stops(cluster, leads, one, other)
                found = stop_of(cluster, leads, one, other)
                if stops:
                    first = [stop for stop in stops if stop[0] == stops[0][0]]
                    best = first[0] if first[0][0] == "rigid" else max(first, key=lambda stop: len(stop[1]))
                    self.assertEqual(found, best)
                    kinds.append(found[0])
                else:
                    self.assertIsNone(found)
                    kinds.append(None)
        self.assertTrue(all(kinds.count(kind) > 20 for kind in ("rigid", "low", "high", None)))

    def test_which_are_stops(self):
        for cluster, leads in WORLDS[::3]:
            things = [("rigid", broker) for broker in range(-1, cluster.size() + 1)]
            things += [(kind, members) for kind in ("low", "high", "Low") for members in sets(cluster.size())]
            for one, other in led_pairs(cluster, leads):
                stops = defined_stops(cluster, leads, one, other)
                for thing in things:
                    self.assertIs(is_stop(cluster, leads, one, other, thing), thing in stops)

    def test_the_least_rigid_broker_in_either_order(self):
        cluster = Cluster([(1, 1), (1, 1), (0, 9)], [(0, 1, 2), (1, 2, 1)])
        for one, other in ((0, 1), (1, 0)):
            self.assertEqual(stop_of(cluster, (1, 0), one, other), ("rigid", 0))
            self.assertIs(is_stop(cluster, (1, 0), one, other, ("rigid", 1)), True)
        self.assertEqual(stop_of(cluster, (1, 0), 2, 1), ("rigid", 1))

    def test_the_bundle_itself_may_lead_into_the_set(self):
        # One partition would go around at the floors if the giver 1 could reach 0 otherwise.
        cluster = Cluster([(1, 2), (0, 2)], [(0, 1, 2)])
        self.assertEqual(stop_of(cluster, (1,), 0, 1), ("low", [0]))
        self.assertEqual(fewest(cluster, (1,), 0, 1), ("never", ("low", [0])))
        self.assertEqual(stop_of(cluster, (1,), 1, 0), None)
        cluster = Cluster([(0, 9), (0, 1)], [(0, 1, 2)])
        self.assertEqual(stop_of(cluster, (1,), 0, 1), ("high", [1]))
        self.assertIs(is_stop(cluster, (1,), 0, 1, ("high", [0, 1])), False)

    def test_any_values(self):
        for thing in any_values():
            self.assertIs(is_stop(LOW, LEADS, 0, 1, thing), False)
            self.assertIs(is_stop(LOW, LEADS, 0, 1, (thing, [0, 1, 2])), False)
            for kind in ("low", "high", "rigid"):
                self.assertIs(is_stop(LOW, LEADS, 0, 1, (kind, thing)), False)
        rigid = Cluster([(1, 1)] * 3, RING)
        for thing in no_integers():
            self.assertIs(is_stop(rigid, LEADS, 0, 1, ("rigid", thing)), False)
        self.assertIs(is_stop(LOW, LEADS, 0, 1, ("low", [0, 1, 2])), True)
        for thing in (["low", [0, 1, 2]], ("low", (0, 1, 2)), ("low", [2, 1, 0]), ("low", [0, 1, 2], 0), ("low",),
                      ("low", []), ("high", []), ("low", [0, 1, 2, 3]), (Agreeing(), 0), (b"low", [0, 1, 2])):
            self.assertIs(is_stop(LOW, LEADS, 0, 1, thing), False)

    def test_the_greatest_counts(self):
        many = 10 ** 18
        cluster, leads = great_ring(many, 10 ** 30)
        self.assertEqual(stop_of(cluster, leads, 2, 0), ("low", [0, 1, 2]))
        cluster, leads = great_ring(0, many)
        self.assertEqual(stop_of(cluster, leads, 2, 0), ("high", [0, 1, 2]))


class FewestTest(unittest.TestCase):
    def check_plan(self, cluster, leads, one, other, many):
        """Check that a plan of so many switches is found, which does what it shall."""
        word, plan = fewest(cluster, leads, one, other)
        self.assertEqual(word, "plan")
        self.assertIs(is_plan(cluster, plan), True)
        self.assertEqual(length(plan), many)
        at = cluster.bundle_of(one, other)
        after = play(cluster, leads, plan)
        self.assertEqual(after[at], leads[at] - 1 if one < other else leads[at] + 1)

    def test_against_a_search(self):
        counts = {}
        for cluster, leads in WORLDS:
            near = distances(cluster, leads)
            for one, other in led_pairs(cluster, leads):
                at = cluster.bundle_of(one, other)
                wanted = leads[at] - 1 if one < other else leads[at] + 1
                best = min([steps for after, steps in near.items() if after[at] == wanted], default=None)
                counts[best] = counts.get(best, 0) + 1
                if best is None:
                    self.assertEqual(fewest(cluster, leads, one, other), ("never", stop_of(cluster, leads, one, other)))
                    self.assertIs(is_stop(cluster, leads, one, other, stop_of(cluster, leads, one, other)), True)
                else:
                    self.check_plan(cluster, leads, one, other, best)
        self.assertTrue(all(counts.get(best, 0) > 10 for best in (None, 1, 2, 3, 4)), counts)

    def test_a_ring_and_ways(self):
        # From the giver 3 over 0 and 1 to 2, then to the taker 0; the ring alone has no giver.
        cluster = Cluster([(1, 2), (1, 2), (1, 2), (0, 2)], RING + [(0, 3, 1)])
        self.check_plan(cluster, (1, 1, 0, 0), 2, 0, 4)
        self.check_plan(cluster, (1, 1, 0, 0), 3, 0, 1)
        # From the giver 0 to 1, which is a taker, and from 2 over 0 to it: the ring alone does it with one less.
        cluster = Cluster([(0, 1), (1, 2), (0, 1)], RING)
        self.check_plan(cluster, (1, 1, 0), 1, 2, 3)
        self.check_plan(cluster, (1, 1, 0), 0, 1, 1)
        self.check_plan(cluster, (1, 1, 0), 2, 0, 2)

    def test_ways_where_there_is_no_ring(self):
        cluster = Cluster([(0, 9), (1, 2), (0, 1), (0, 9)], [(0, 1, 1), (1, 2, 1), (2, 3, 1)])
        self.check_plan(cluster, (1, 1, 1), 1, 2, 3)
        many = 10 ** 18
        rows = [(broker, broker + 1, many) for broker in range(9)]
        cluster = Cluster([(0, many)] + [(many, many + 1)] * 4 + [(many - 1, many)] * 4 + [(0, 10 ** 30)], rows)
        self.check_plan(cluster, (many,) * 9, 4, 5, 9)

    def test_ways_that_meet(self):
        # The giver 0 is one itself, and stands on the only way from 1 to the taker 3.
        cluster = Cluster([(1, 2), (0, 1), (0, 1), (0, 9)], [(0, 1, 1), (1, 2, 1), (0, 2, 1), (0, 3, 1)])
        self.check_plan(cluster, (1, 1, 0, 1), 0, 1, 4)
        # The taker 0 is the other one itself, and stands on the only way from the giver 3 to 1.
        cluster = Cluster([(1, 2), (1, 2), (1, 2), (0, 9)], [(0, 1, 1), (1, 2, 1), (0, 2, 1), (0, 3, 1)])
        self.check_plan(cluster, (0, 0, 1, 0), 1, 0, 4)

    def test_brokers_without_a_bundle(self):
        cluster = Cluster([(0, 2), (1, 1), (0, 2)], [(0, 1, 2)])
        for one, other in ((0, 2), (2, 0), (1, 2), (2, 1)):
            with self.assertRaises(NoBundle) as caught:
                fewest(cluster, (1,), one, other)
            self.assertEqual((caught.exception.one, caught.exception.other), (one, other))

    def test_one_that_leads_no_partition(self):
        for bounds in ([(0, 2), (0, 2)], [(0, 2), (2, 2)]):
            cluster = Cluster(bounds, [(0, 1, 2)])
            for leads, one, other in (((0,), 0, 1), ((2,), 1, 0)):
                if bounds[1] == (0, 2) or one == 0:
                    with self.assertRaises(NotLed) as caught:
                        fewest(cluster, leads, one, other)
                    self.assertEqual(caught.exception.broker, one)

    def test_the_greatest_counts(self):
        many = 10 ** 18
        cluster, leads = great_ring(many - 1, 10 ** 30)
        self.check_plan(cluster, leads, 2, 1, 1)
        cluster, leads = great_ring(many, 10 ** 30)
        self.check_plan(cluster.bounded(0, 0, many), leads, 2, 1, 2)
        self.assertEqual(fewest(cluster, leads, 2, 1), ("never", ("low", [0, 1, 2])))
        cluster, leads = great_cluster()
        for one, other in ((9, 0), (0, 9), (4, 5)):
            self.check_plan(cluster, leads, one, other, 1)
        with self.assertRaises(NotLed):
            fewest(cluster, leads, 0, 1)


class SameTest(unittest.TestCase):
    def test_nothing_changes_and_lists_are_new(self):
        free, thing = Cluster([(0, 2), (1, 2), (1, 2)], RING), ("low", [0, 1, 2])
        first, before = fewest(free, LEADS, 0, 1), copy.deepcopy(thing)
        for _ in range(2):
            found = fewest(free, LEADS, 0, 1)
            self.assertEqual(found, first)
            found[1][0][1].append(1)
            found[1].append(1)
            for found in (fewest(LOW, LEADS, 0, 1)[1], stop_of(LOW, LEADS, 0, 1)):
                self.assertEqual(found, ("low", [0, 1, 2]))
                found[1].append(3)
            self.assertEqual(stop_of(HIGH, LEADS, 0, 1), ("high", [0, 1, 2]))
            self.assertIs(is_stop(LOW, LEADS, 0, 1, thing), True)
            self.assertIs(is_stop(HIGH, LEADS, 0, 1, thing), False)
        self.assertEqual([thing, LOW, HIGH], [before, Cluster([(1, 2)] * 3, RING), Cluster([(0, 1)] * 3, RING)])


if __name__ == "__main__":
    unittest.main()
