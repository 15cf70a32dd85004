"""Plans along ways and around rings, and to other leads [3] [4] [7] [8] [50] [51] [52]."""

import itertools
import unittest

from leadswitch.clusters import Cluster
from leadswitch.errors import NotLegal
from leadswitch.frozen import bar, frozen
from leadswitch.plans import is_plan, length, play
from leadswitch.reach import along, around, decide
from worlds import (
    RING, all_valid, distances, great_cluster, great_goals, great_ring, loads_of, sleeping_rings, some_worlds,
)

WORLDS = some_worlds(50, 150, sizes=(2, 3, 4, 5), most=3)


def handed(cluster, leads, pairs, times):
    """Return leads, valid or not, in which each pair has handed over so many partitions; None if it cannot."""
    after = list(leads)
    for one, other in pairs:
        rows = [(at, row) for at, row in enumerate(cluster.bundles()) if set(row[:2]) == {one, other}]
        if not rows:
            return None
        at, row = rows[0]
        after[at] += -times if one < other else times
        if not 0 <= after[at] <= row[2]:
            return None
    return tuple(after)


def lists_of(cluster, least):
    """Return all lists of at least so many different brokers, each two neighbours of which have a bundle."""
    pairs = {row[:2] for row in cluster.bundles()}
    return [list(brokers) for many in range(least, cluster.size() + 1)
            for brokers in itertools.permutations(range(cluster.size()), many)
            if all((min(pair), max(pair)) in pairs for pair in zip(brokers, brokers[1:]))]


def is_rigid(cluster, broker):
    return cluster.bounds()[broker][0] == cluster.bounds()[broker][1]


class BlockTest(unittest.TestCase):
    def check(self, cluster, leads, plan, pairs, times):
        self.assertIs(is_plan(cluster, plan), True)
        self.assertEqual(len(plan), 1)
        done = {}
        for turns, runs in plan:
            for one, other, many in runs:
                done[(one, other)] = done.get((one, other), 0) + turns * many
        self.assertEqual(done, {pair: times for pair in pairs})
        self.assertEqual(play(cluster, leads, plan), handed(cluster, leads, pairs, times))


class AlongTest(BlockTest):
    def test_against_the_definition(self):
        counts = {True: 0, False: 0}
        for cluster, leads in WORLDS:
            have = loads_of(cluster.size(), cluster.bundles(), leads)
            for brokers in lists_of(cluster, 2):
                pairs = list(zip(brokers, brokers[1:]))
                for times in (1, 2, 3, 4):
                    fits = not any(is_rigid(cluster, broker) for broker in brokers)
                    fits = fits and handed(cluster, leads, pairs, times) is not None
                    fits = fits and have[brokers[0]] - times >= cluster.floor(brokers[0])
                    fits = fits and have[brokers[-1]] + times <= cluster.ceiling(brokers[-1])
                    counts[fits] += 1
                    if fits:
                        self.check(cluster, leads, along(cluster, leads, brokers, times), pairs, times)
                    else:
                        with self.assertRaises(NotLegal):
                            along(cluster, leads, brokers, times)
        self.assertGreater(min(counts.values()), 50)

    def test_each_condition_alone(self):
        rows = [(0, 1, 9), (1, 2, 9)]
        fitting = [(3, 9), (9, 10), (0, 9)]
        self.check(Cluster(fitting, rows), (6, 6), along(Cluster(fitting, rows), (6, 6), [0, 1, 2], 3),
                   [(0, 1), (1, 2)], 3)
        for bounds, leads, times in (
            ([(4, 9), (9, 10), (0, 9)], (6, 6), 3), ([(3, 9), (9, 10), (0, 5)], (6, 6), 3),
            ([(6, 6), (9, 10), (0, 9)], (6, 6), 3), ([(3, 9), (9, 9), (0, 9)], (6, 6), 3),
            ([(3, 9), (9, 10), (3, 3)], (6, 6), 3), ([(0, 9), (0, 20), (0, 9)], (2, 6), 3),
            ([(0, 9), (0, 20), (0, 9)], (6, 2), 3), ([(0, 9), (0, 20), (0, 9)], (6, 6), 7),
        ):
            with self.subTest(bounds=bounds, leads=leads, times=times):
                with self.assertRaises(NotLegal):
                    along(Cluster(bounds, rows), leads, [0, 1, 2], times)

    def test_brokers_between_at_their_floors_and_ceilings(self):
        size, many = 10, 10 ** 18
        rows = [(broker, broker + 1, many) for broker in range(size - 1)]
        leads = (many,) * (size - 1)
        pairs = list(zip(range(size - 1), range(1, size)))
        for bits in itertools.product((0, 1), repeat=size - 2):
            between = [(many - bit, many - bit + 1) for bit in bits]
            cluster = Cluster([(0, many)] + between + [(0, 10 ** 30)], rows)
            self.check(cluster, leads, along(cluster, leads, list(range(size)), many), pairs, many)

    def test_the_greatest_counts(self):
        many = 10 ** 18
        cluster = Cluster([(0, many)] * 2, [(0, 1, many)])
        self.check(cluster, (0,), along(cluster, (0,), [1, 0], many), [(1, 0)], many)
        for times in (many - 1, many):
            with self.assertRaises(NotLegal):
                along(cluster.bounded(1, 2, many), (0,), [1, 0], times)
        self.check(cluster, (0,), along(cluster.bounded(1, 2, many), (0,), [1, 0], many - 2), [(1, 0)], many - 2)


class AroundTest(BlockTest):
    def test_against_the_definition(self):
        counts = {True: 0, False: 0}
        for cluster, leads in WORLDS + [world[:2] for world in sleeping_rings(51, 60, 1, 4, (1, 2))]:
            have = loads_of(cluster.size(), cluster.bundles(), leads)
            for brokers in lists_of(cluster, 3):
                if cluster.bundle_of(brokers[0], brokers[-1]) is None:
                    continue
                pairs = list(zip(brokers, brokers[1:] + brokers[:1]))
                gives = any(have[broker] > cluster.floor(broker) for broker in brokers)
                takes = any(have[broker] < cluster.ceiling(broker) for broker in brokers)
                for times in (1, 2, 3):
                    fits = gives and takes and not any(is_rigid(cluster, broker) for broker in brokers)
                    fits = fits and handed(cluster, leads, pairs, times) is not None
                    counts[fits] += 1
                    if fits:
                        self.check(cluster, leads, around(cluster, leads, brokers, times), pairs, times)
                    else:
                        with self.assertRaises(NotLegal):
                            around(cluster, leads, brokers, times)
        self.assertGreater(min(counts.values()), 50)

    def test_all_mixtures_of_floors_and_ceilings(self):
        many = 10 ** 18
        for size in (3, 4, 7):
            rows = [(broker, broker + 1, many) for broker in range(size - 1)] + [(0, size - 1, many)]
            leads, brokers = (many,) * (size - 1) + (0,), list(range(size))
            pairs = list(zip(brokers, brokers[1:] + brokers[:1]))
            for words in itertools.product("lhf", repeat=size):
                bounds = {"l": (many, many + 1), "h": (many - 1, many), "f": (many - 1, many + 1)}
                cluster = Cluster([bounds[word] for word in words], rows)
                if set(words) in ({"l"}, {"h"}):
                    with self.assertRaises(NotLegal):
                        around(cluster, leads, brokers, 1)
                else:
                    self.check(cluster, leads, around(cluster, leads, brokers, many), pairs, many)

    def test_rings_at_their_floors_and_ceilings(self):
        many = 10 ** 18
        for floor, ceiling in ((many, 10 ** 30), (0, many), (many, many)):
            cluster, leads = great_ring(floor, ceiling)
            for brokers in ([0, 1, 2], [2, 1, 0]):
                with self.assertRaises(NotLegal):
                    around(cluster, leads, brokers, 1)
        cluster, leads = great_ring(many - 1, many + 1)
        self.check(cluster, leads, around(cluster, leads, [1, 0, 2], many // 2), [(1, 0), (0, 2), (2, 1)], many // 2)
        with self.assertRaises(NotLegal):
            around(cluster, leads, [1, 0, 2], many // 2 + 1)


class DecideTest(unittest.TestCase):
    def check_plan(self, cluster, leads, goal, plan):
        self.assertIs(is_plan(cluster, plan), True)
        self.assertEqual(play(cluster, leads, plan), goal)

    def test_against_a_search(self):
        counts = {"plan": 0, "frozen": 0}
        for cluster, leads in WORLDS[:100] + [world[:2] for world in sleeping_rings(52, 20, 1, 5, (1,))]:
            near = distances(cluster, leads)
            for goal in all_valid(cluster)[:40]:
                found = decide(cluster, leads, goal)
                counts[found[0]] += 1
                if goal in near:
                    self.assertEqual((found[0], len(found)), ("plan", 2))
                    self.check_plan(cluster, leads, goal, found[1])
                else:
                    still = [at for at in frozen(cluster, leads) if leads[at] != goal[at]]
                    self.assertEqual(found, ("frozen", still[0], bar(cluster, leads, still[0])))
        self.assertGreater(min(counts.values()), 50)

    def test_the_leads_themselves(self):
        for cluster, leads in WORLDS + [great_cluster()]:
            self.assertEqual(decide(cluster, leads, leads), ("plan", []))
        self.assertEqual(decide(Cluster([(0, 0)] * 2, []), (), ()), ("plan", []))

    def test_between_any_leads_of_ten_brokers(self):
        some = 0
        for cluster, leads, goal in great_goals(53, 60) + sleeping_rings(54, 60, 3, 10, (1, 2, 10 ** 18)):
            found = decide(cluster, leads, goal)
            if found[0] == "plan":
                some += 1
                self.check_plan(cluster, leads, goal, found[1])
        self.assertGreater(some, 60)

    def test_45_bundles_of_the_greatest_counts(self):
        cluster, leads = great_cluster()
        rows = cluster.bundles()
        for goal in (tuple(row[2] for row in rows), (0,) * 45, tuple(row[2] * (at % 2) for at, row in enumerate(rows)),
                     tuple(row[2] - many for row, many in zip(rows, leads))):
            for start, end in ((leads, goal), (goal, leads), (goal, (0,) * 45)):
                self.check_plan(cluster, start, end, decide(cluster, start, end)[1])

    def test_a_ring_at_its_floors_and_at_its_ceilings(self):
        many = 10 ** 18
        goal = (0, 0, many)
        for floor, ceiling, word in ((many, 10 ** 30, "low"), (0, many, "high")):
            cluster, leads = great_ring(floor, ceiling)
            self.assertEqual(decide(cluster, leads, goal), ("frozen", 0, (word, [0, 1, 2])))
            self.assertEqual(decide(cluster, goal, leads), ("frozen", 0, (word, [0, 1, 2])))
        cluster, leads = great_ring(many, 10 ** 30)
        for broker in range(3):
            free = cluster.bounded(broker, many - 1, many + 1)
            plan = decide(free, leads, goal)[1]
            self.check_plan(free, leads, goal, plan)
            self.assertEqual(length(plan), 3 * many // 2)

    def test_the_least_frozen_bundle(self):
        cluster = Cluster([(0, 9), (0, 9), (2, 2), (2, 2)], [(0, 1, 4), (2, 3, 2), (0, 2, 2), (0, 3, 2)])
        leads, goal = (2, 1, 1, 1), (1, 0, 0, 2)
        self.assertEqual(decide(cluster, leads, goal), ("frozen", 1, ("rigid", 2)))
        self.assertEqual(decide(cluster, leads, (2, 1, 1, 1)), ("plan", []))
        self.assertEqual(decide(cluster, goal, leads), ("frozen", 1, ("rigid", 2)))

    def test_guarantee_what_is_done_can_be_taken_back(self):
        for cluster, leads in WORLDS[:60]:
            for goal in all_valid(cluster)[:10]:
                there, back = decide(cluster, leads, goal), decide(cluster, goal, leads)
                self.assertEqual(there[0], back[0])


class SameTest(unittest.TestCase):
    def told(self, cluster, brokers):
        leads = (1, 1, 0)
        return [along(cluster, leads, brokers[:2], 1), around(cluster, leads, brokers, 1),
                decide(cluster, leads, (0, 0, 1))[1]]

    def test_nothing_changes_and_lists_are_new(self):
        one, other = Cluster([(0, 2), (1, 2), (1, 2)], RING), Cluster([(1, 2), (0, 2), (1, 2)], RING)
        brokers = [0, 1, 2]
        first = self.told(one, brokers)
        for _ in range(2):
            found = self.told(one, brokers)
            self.assertEqual(found, first)
            for plan in found:
                plan[0][1].append(1)
                plan.append(1)
            self.assertEqual(play(other, (1, 1, 0), around(other, (1, 1, 0), brokers, 1)), (0, 0, 1))
        self.assertEqual([one, brokers], [Cluster([(0, 2), (1, 2), (1, 2)], RING), [0, 1, 2]])
        low = Cluster([(1, 2)] * 3, RING)
        for _ in range(2):
            found = decide(low, (1, 1, 0), (0, 0, 1))
            self.assertEqual(found, ("frozen", 0, ("low", [0, 1, 2])))
            found[2][1].append(3)


if __name__ == "__main__":
    unittest.main()
