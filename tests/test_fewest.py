"""Pieces, helpers, and the fewest switches between two leads [3] [4] [8] [9] [61] [62] [63]."""

import copy
import itertools
import unittest

from leadswitch.clusters import Cluster
from leadswitch.errors import Frozen
from leadswitch.fewest import are_helpers, fewest_plan, fewest_switches, helpers, pieces
from leadswitch.frozen import frozen
from leadswitch.plans import is_plan, length, play
from values import any_values, no_integers
from worlds import (
    RING, all_valid, distances, great_cluster, great_goals, great_ring, loads_of, sleeping_rings, some_worlds,
)

ASKED = (pieces, helpers, fewest_switches, fewest_plan)


def some_goals():
    """Return tuples (cluster, leads, goal) of small clusters, goal being reached by a plan."""
    found = []
    for cluster, leads in some_worlds(66, 150, sizes=(2, 3, 4, 5)):
        found += [(cluster, leads, goal) for goal in list(distances(cluster, leads))[:80:4]]
    for seed, many, rings, size in ((67, 250, 1, 5), (68, 60, 2, 6), (69, 30, 2, 7)):
        found += [world for world in sleeping_rings(seed, many, rings, size, (1,)) if is_reached(*world)]
    return found


def is_reached(cluster, leads, goal):
    return all(leads[at] == goal[at] for at in frozen(cluster, leads))


def defined_pieces(cluster, leads, goal):
    parts = [{first, second} for before, after, (first, second, _) in zip(leads, goal, cluster.bundles())
             if before != after]
    for broker in range(cluster.size()):
        touching = [part for part in parts if broker in part]
        parts = [part for part in parts if broker not in part] + [set().union(*touching)] * (touching != [])
    start, end = [loads_of(cluster.size(), cluster.bundles(), what) for what in (leads, goal)]
    found = []
    for part in sorted(sorted(part) for part in parts):
        word = "free"
        if all(start[broker] == end[broker] for broker in part):
            if all(start[broker] == cluster.floor(broker) for broker in part):
                word = "low"
            if all(start[broker] == cluster.ceiling(broker) for broker in part):
                word = "high"
        found.append((part, word))
    return found


class Sleep:
    """The definition of [62], with sets of broker numbers."""

    def __init__(self, cluster, leads, goal):
        self.parts = defined_pieces(cluster, leads, goal)
        start = loads_of(cluster.size(), cluster.bundles(), leads)
        free = [broker for broker in range(cluster.size()) if cluster.floor(broker) < cluster.ceiling(broker)]
        self.words = {broker: word for members, word in self.parts for broker in members}
        for broker in free:
            if broker not in self.words:
                low, high = start[broker] == cluster.floor(broker), start[broker] == cluster.ceiling(broker)
                self.words[broker] = "low" if low else "high" if high else "free"
        self.arcs = []
        for number, (first, second, partitions) in zip(leads, cluster.bundles()):
            if first in free and second in free:
                self.arcs += [(first, second)] * (number > 0) + [(second, first)] * (number < partitions)

    def start(self):
        return frozenset(broker for broker, word in self.words.items() if word == "free")

    def woken(self, awake, one, other):
        """Return the brokers that are awake after a helping switch, or None if it is not one."""
        if (one, other) not in self.arcs or (one in awake and other in awake):
            return None
        if one not in awake and self.words[one] != "high" or other not in awake and self.words[other] != "low":
            return None
        return awake.union([one, other], *[members for members, _ in self.parts if one in members or other in members])

    def is_done(self, awake):
        return all(broker in awake for members, _ in self.parts for broker in members)

    def fewest(self):
        """Return the fewest helpers."""
        states, many = {self.start()}, 0
        while not any(self.is_done(awake) for awake in states):
            states = {self.woken(awake, one, other) for awake in states for one, other in self.arcs} - {None}
            many += 1
        return many

    def are_helpers(self, rows):
        awake = self.start()
        for one, other in rows:
            awake = self.woken(awake, one, other)
            if awake is None:
                return False
        return self.is_done(awake)


GOALS = some_goals()
# Three brokers at their floors, a ring; the broker 3 can help.
HELPED = Cluster([(1, 2), (1, 2), (1, 2), (0, 2)], RING + [(0, 3, 1)])
LEADS, GOAL = (1, 1, 0, 0), (0, 0, 1, 0)


class PiecesTest(unittest.TestCase):
    def test_against_the_definition(self):
        words = []
        for cluster, leads, goal in GOALS:
            found = pieces(cluster, leads, goal)
            self.assertEqual(found, defined_pieces(cluster, leads, goal))
            words += [word for _, word in found]
        self.assertTrue(all(words.count(word) > 50 for word in ("low", "high", "free")))

    def test_no_difference(self):
        self.assertEqual(pieces(HELPED, LEADS, LEADS), [])
        self.assertEqual(pieces(Cluster([(0, 0), (0, 1)], []), (), ()), [])
        low = Cluster([(1, 2)] * 3, RING)
        self.assertEqual(pieces(low, (1, 1, 0), (1, 1, 0)), [])

    def test_several_in_ascending_order(self):
        cluster = Cluster([(0, 9)] * 7, [(4, 5, 3), (2, 6, 3), (0, 3, 3), (3, 4, 3), (1, 6, 3)])
        self.assertEqual(pieces(cluster, (1, 1, 1, 1, 1), (2, 0, 0, 1, 1)),
                         [([0, 3], "free"), ([2, 6], "free"), ([4, 5], "free")])
        self.assertEqual(pieces(cluster, (1, 1, 1, 1, 1), (2, 0, 0, 3, 1)), [([0, 3, 4, 5], "free"), ([2, 6], "free")])
        self.assertEqual(pieces(cluster, (1, 1, 1, 1, 1), (1, 0, 1, 1, 2)), [([1, 2, 6], "free")])

    def test_words_need_that_no_load_changes(self):
        cluster = Cluster([(1, 9), (0, 9), (0, 9)], [(0, 1, 2), (1, 2, 2)])
        self.assertEqual(pieces(cluster, (1, 0), (2, 0)), [([0, 1], "free")])
        ring = Cluster([(1, 2), (1, 2), (1, 3), (0, 3)], RING + [(2, 3, 3)])
        self.assertEqual(pieces(ring, (1, 1, 0, 1), (0, 0, 1, 1)), [([0, 1, 2], "free")])
        self.assertEqual(pieces(ring.bounded(2, 2, 3), (1, 1, 0, 1), (0, 0, 1, 1)), [([0, 1, 2], "low")])
        self.assertEqual(pieces(ring.bounded(2, 2, 3), (1, 1, 0, 1), (0, 0, 1, 2)), [([0, 1, 2, 3], "free")])


class FrozenTest(unittest.TestCase):
    def check_frozen(self, cluster, leads, goal, bundle, thing):
        for call in ASKED + (lambda *three: are_helpers(*three, thing),):
            with self.assertRaises(Frozen) as caught:
                call(cluster, leads, goal)
            self.assertEqual(caught.exception.bundle, bundle)

    def test_against_the_definition(self):
        some = 0
        for cluster, leads in some_worlds(70, 60) + [world[:2] for world in sleeping_rings(70, 30, 1, 4, (1, 2))]:
            for goal in all_valid(cluster)[:20]:
                still = [at for at in frozen(cluster, leads) if leads[at] != goal[at]]
                if still:
                    some += 1
                    self.check_frozen(cluster, leads, goal, still[0], [])
                else:
                    self.assertEqual(length(fewest_plan(cluster, leads, goal)), distances(cluster, leads)[goal])
        self.assertGreater(some, 30)

    def test_before_the_thing_is_looked_at(self):
        low = Cluster([(1, 2)] * 3, RING)
        for thing in any_values() + [[], [(0, 1)]]:
            self.check_frozen(low, (1, 1, 0), (0, 0, 1), 0, thing)

    def test_the_greatest_counts(self):
        many = 10 ** 18
        for floor, ceiling in ((many, 10 ** 30), (0, many), (many, many)):
            cluster, leads = great_ring(floor, ceiling)
            self.check_frozen(cluster, leads, (0, 0, many), 0, [])


class HelpersTest(unittest.TestCase):
    def test_as_few_as_possible(self):
        counts = {}
        for cluster, leads, goal in GOALS:
            found = helpers(cluster, leads, goal)
            sleep = Sleep(cluster, leads, goal)
            self.assertIs(sleep.are_helpers(found), True)
            self.assertEqual(len(found), sleep.fewest())
            counts[len(found)] = counts.get(len(found), 0) + 1
        self.assertTrue(all(counts.get(many, 0) > 10 for many in (0, 1, 2)), counts)

    def test_which_are_helpers(self):
        for cluster, leads, goal in GOALS[::5]:
            sleep = Sleep(cluster, leads, goal)
            pairs = list(itertools.permutations(range(cluster.size()), 2))
            things = [[]] + [[pair] for pair in pairs]
            things += [list(two) for two in itertools.product(sleep.arcs[:8], repeat=2)]
            for thing in things:
                self.assertIs(are_helpers(cluster, leads, goal, thing), sleep.are_helpers(thing))

    def test_perhaps_not_as_few_as_possible(self):
        # Broker 4 sleeps low; to wake it helps nobody.
        cluster = Cluster(HELPED.bounds() + [(0, 1)], HELPED.bundles() + [(3, 4, 1)]).bounded(3, 0, 3)
        leads, goal = LEADS + (1,), GOAL + (1,)
        self.assertEqual(helpers(cluster, leads, goal), [(3, 0)])
        for thing, found in (([(3, 0)], True), ([(3, 0), (3, 4)], True), ([(3, 4), (3, 0)], True), ([(3, 4)], False),
                             ([(3, 0), (3, 0)], False), ([(3, 4), (3, 4), (3, 0)], False), ([(0, 3)], False)):
            self.assertIs(are_helpers(cluster, leads, goal, thing), found)

    def test_any_values(self):
        self.assertIs(are_helpers(HELPED, LEADS, GOAL, [(3, 0)]), True)
        for thing in any_values():
            self.assertIs(are_helpers(HELPED, LEADS, GOAL, thing), False)
            self.assertIs(are_helpers(HELPED, LEADS, LEADS, thing), thing == [] and isinstance(thing, list))
            self.assertIs(are_helpers(HELPED, LEADS, GOAL, [(3, 0), thing]), False)
        for thing in no_integers():
            for row in ((thing, 0), (3, thing)):
                self.assertIs(are_helpers(HELPED, LEADS, GOAL, [row]), False)
        for thing in (((3, 0),), [[3, 0]], [(3, 0, 1)], [(3,)], [(3, False)], [(3, 4)], [(-1, 0)], [(10 ** 41, 0)],
                      [(3, 3)], [(0, 1)], [(3, 1)], {(3, 0): 1}, "3 0"):
            self.assertIs(are_helpers(HELPED, LEADS, GOAL, thing), False)


class FewestTest(unittest.TestCase):
    def check(self, cluster, leads, goal, many):
        plan = fewest_plan(cluster, leads, goal)
        self.assertIs(is_plan(cluster, plan), True)
        self.assertEqual(play(cluster, leads, plan), goal)
        self.assertEqual([length(plan), fewest_switches(cluster, leads, goal)], [many, many])

    def test_against_a_search(self):
        for cluster, leads, goal in GOALS:
            self.check(cluster, leads, goal, distances(cluster, leads)[goal])

    def test_the_sum_and_the_helpers(self):
        counts, amounts = {}, (1, 2, 7, 10 ** 18 - 1, 10 ** 18)
        worlds = sleeping_rings(71, 150, 3, 10, amounts) + sleeping_rings(73, 100, 2, 10, amounts) + great_goals(72, 60)
        for cluster, leads, goal in [world for world in worlds if is_reached(*world)]:
            found = helpers(cluster, leads, goal)
            counts[len(found)] = counts.get(len(found), 0) + 1
            self.check(cluster, leads, goal, sum(abs(a - b) for a, b in zip(leads, goal)) + 2 * len(found))
        self.assertTrue(all(counts.get(many, 0) > 5 for many in (0, 1, 2, 3)), counts)

    def test_no_difference(self):
        cluster, leads = great_cluster()
        self.assertEqual([fewest_plan(cluster, leads, leads), fewest_switches(cluster, leads, leads)], [[], 0])
        self.assertEqual(fewest_plan(Cluster([(0, 0)] * 2, []), (), ()), [])

    def test_45_bundles_of_the_greatest_counts(self):
        cluster, leads = great_cluster()
        most = tuple(row[2] for row in cluster.bundles())
        for start, goal in ((leads, most), (most, leads), ((0,) * 45, most)):
            self.check(cluster, start, goal, sum(abs(before - after) for before, after in zip(start, goal)))

    def test_rings_at_their_floors_and_at_their_ceilings(self):
        many = 10 ** 18
        ring, leads = great_ring(0, many)
        rows, leads, goal = ring.bundles() + [(0, 3, 2)], leads + (1,), (0, 0, many, 1)
        for bounds, pair in (([(many + 1, 10 ** 30)] + [(many, 10 ** 30)] * 2, (3, 0)),
                             ([(0, many + 1)] + [(0, many)] * 2, (0, 3))):
            cluster = Cluster(bounds + [(0, 3)], rows)
            self.assertEqual(helpers(cluster, leads, goal), [pair])
            self.check(cluster, leads, goal, 3 * (many // 2) + 2)

    def test_two_rings_that_share_a_broker(self):
        # The second ring alone is at its floors, and gets what it needs from the first one.
        rows = [(0, 1, 5), (1, 2, 5), (0, 2, 5), (2, 3, 7), (3, 4, 7), (2, 4, 7)]
        leads, goal = (5, 5, 0, 7, 7, 0), (0, 0, 5, 0, 0, 7)
        for free in range(5):
            bounds = [(load, load + 1) for load in loads_of(5, rows, leads)]
            bounds[free] = (bounds[free][0] - 1, bounds[free][0] + 1)
            self.check(Cluster(bounds, rows), leads, goal, 36)
            bounds = [(load - 1, load) for load in loads_of(5, rows, leads)]
            bounds[free] = (bounds[free][0], bounds[free][1] + 1)
            self.check(Cluster(bounds, rows), leads, goal, 36)


class WaysOfHelpTest(unittest.TestCase):
    """One cluster for each way in which a helping switch wakes a piece."""

    def check(self, bounds, rows, leads, goal, found):
        cluster = Cluster(bounds, rows)
        self.assertEqual(helpers(cluster, leads, goal), found)
        plan = fewest_plan(cluster, leads, goal)
        self.assertEqual(play(cluster, leads, plan), goal)
        self.assertEqual(length(plan), distances(cluster, leads)[goal])

    def test_a_high_and_a_low_ring_help_each_other(self):
        rows = RING + [(3, 4, 1), (4, 5, 1), (3, 5, 1), (0, 3, 1)]
        leads, goal = (1, 1, 0, 1, 1, 0, 0), (0, 0, 1, 0, 0, 1, 0)
        self.check([(1, 2)] * 4 + [(0, 1)] * 2, rows, leads, goal, [(3, 0)])

    def test_a_sleeping_broker_hands_on(self):
        # 4 gives to 3, which sleeps at its floor and has room for one partition, and 3 gives to the ring.
        rows = RING + [(0, 3, 1), (3, 4, 1)]
        self.check([(1, 2)] * 3 + [(1, 2), (0, 3)], rows, (1, 1, 0, 0, 0), (0, 0, 1, 0, 0), [(4, 3), (3, 0)])

    def test_a_ring_that_is_woken_wakes_another_one(self):
        rows = RING + [(3, 4, 1), (4, 5, 1), (3, 5, 1), (0, 3, 1), (2, 6, 1)]
        leads, goal = (1, 1, 0, 1, 1, 0, 1, 0), (0, 0, 1, 0, 0, 1, 1, 0)
        self.check([(2, 3), (1, 2), (1, 2), (1, 2), (1, 2), (1, 2), (0, 2)], rows, leads, goal, [(6, 2), (0, 3)])

    def test_a_free_piece_helps_with_a_broker_that_gives_only_in_between(self):
        # The piece 3, 4, 5 is free; 3, which helps, is at its floor at first and in the end.
        rows = RING + [(3, 4, 1), (4, 5, 1), (3, 5, 1), (0, 3, 1)]
        leads, goal = (1, 1, 0, 1, 1, 0, 0), (0, 0, 1, 0, 0, 1, 0)
        self.check([(1, 2)] * 3 + [(2, 3), (1, 2), (0, 2)], rows, leads, goal, [(3, 0)])
        # The same at the ceilings: 3 takes only in between.
        leads, goal = (1, 1, 0, 1, 1, 0, 1), (0, 0, 1, 0, 0, 1, 1)
        self.check([(1, 2), (0, 1), (0, 1), (0, 1), (0, 1), (0, 2)], rows, leads, goal, [(0, 3)])


class SameTest(unittest.TestCase):
    def test_nothing_changes_and_lists_are_new(self):
        other = HELPED.bounded(0, 0, 2)
        first, second = [[call(cluster, LEADS, GOAL) for call in ASKED] for cluster in (HELPED, other)]
        self.assertNotEqual(first, second)
        for cluster, expected in ((HELPED, first), (other, second), (HELPED, first)):
            found = [call(cluster, LEADS, GOAL) for call in ASKED]
            self.assertEqual(found, expected)
            found[0][0][0].append(1)
            found[0].append(1)
            found[1].append(1)
            found[3][0][1].append(1)
            found[3].append(1)
        thing = [(3, 0)]
        before = copy.deepcopy(thing)
        for _ in range(2):
            self.assertIs(are_helpers(HELPED, LEADS, GOAL, thing), True)
            self.assertIs(are_helpers(other, LEADS, GOAL, thing), False)
        self.assertEqual([thing, HELPED], [before, Cluster([(1, 2)] * 3 + [(0, 2)], RING + [(0, 3, 1)])])


if __name__ == "__main__":
    unittest.main()
