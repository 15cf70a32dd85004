"""What an observer knows who sees loads and switches [3] [4] [91] [92]."""

import copy
import itertools
import random
import unittest

from leadswitch.clusters import Cluster
from leadswitch.errors import Impossible
from leadswitch.nearest import to_ranges
from leadswitch.plans import play
from leadswitch.records import first_bad, led_range, possible_leads
from worlds import RING, anew, great_goals, great_ring, great_worlds, loads_of, next_leads, wide_worlds

MANY, MOST = 10 ** 18, 10 ** 30
ROW = Cluster([(0, 9), (0, 9), (0, 9)], [(0, 1, 3), (1, 2, 3), (0, 2, 3)])


def some_switches(chance, cluster, leads, many, good):
    """Return a list of switches, the most of which are legal from the leads."""
    found, rows = [], cluster.bundles()
    for _ in range(many):
        after = next_leads(cluster, leads)
        if after and chance.random() < good:
            pair = chance.choice(sorted(after))
            leads = after[pair]
        else:
            row = chance.choice(rows)
            pair = chance.choice(((row[0], row[1]), (row[1], row[0])))
        found.append(pair)
    return found


def some_records(seed, many):
    """Return tuples (cluster, start, switches) of small clusters."""
    chance, found = random.Random(seed), []
    for cluster, leads in wide_worlds(seed, many):
        if len(cluster):
            for good in (1, 0.9) if next_leads(cluster, leads) else (0,):
                start = loads_of(cluster.size(), cluster.bundles(), leads)
                if chance.random() < 0.1:
                    start = [chance.randint(floor, ceiling) for floor, ceiling in cluster.bounds()]
                many = chance.choice((0, 1, 2, 5, 9)) if good < 1 else 9
                switches = some_switches(chance, cluster, leads, many, good)
                found.append((cluster, start, switches))
                found.append((cluster, start, switches[:-1] + some_switches(chance, cluster, leads, 1, 0)))
    return found


def searched(cluster, start, switches):
    """Return what first_bad returns, and the list of all possible leads."""
    rows = cluster.bundles()
    ranges = [range(partitions + 1) for _, _, partitions in rows]
    here = {leads: leads for leads in itertools.product(*ranges) if loads_of(cluster.size(), rows, leads) == start}
    if not here:
        return -1, []
    for at, pair in enumerate(switches):
        after = {first: next_leads(cluster, leads).get(pair) for first, leads in here.items()}
        here = {first: leads for first, leads in after.items() if leads is not None}
        if not here:
            return at, []
    return None, sorted(here)


def led_bounds(cluster, switches):
    """Return for each bundle the least and the greatest leads with which it has a partition for each switch."""
    found = []
    for first, second, partitions in cluster.bundles():
        least, most, change = 0, partitions, 0
        for pair in switches:
            if pair == (first, second):
                least = max(least, 1 - change)
                change -= 1
            if pair == (second, first):
                most = min(most, partitions - 1 - change)
                change += 1
        found.append((least, most))
    return found


def are_possible(cluster, start, bounds):
    """Return whether some leads within bounds have the loads start, as [60] tells of a cluster of what is left open."""
    rows, have = [], list(start)
    for (first, second, partitions), (least, most) in zip(cluster.bundles(), bounds):
        if least > most:
            return False
        have[first] -= least
        have[second] -= partitions - most
        if least < most:
            rows.append((first, second, most - least))
    free = Cluster([(0, MOST)] * cluster.size(), rows)
    if min(have) < 0 or sum(have) != sum(row[2] for row in rows):
        return False
    return to_ranges(free, (0,) * len(rows), [(load, load) for load in have])[0] == "plan"


def is_good(cluster, start, switches):
    """Return whether some leads are possible for the last switch, if some are for those ahead of it."""
    have = list(start)
    for one, other in switches[:-1]:
        have[one] -= 1
        have[other] += 1
    for one, other in switches[-1:]:
        if have[one] == cluster.floor(one) or have[other] == cluster.ceiling(other):
            return False
    return are_possible(cluster, start, led_bounds(cluster, switches))


RECORDS = some_records(130, 130)


class RecordsTest(unittest.TestCase):
    def check_bad(self, cluster, start, switches, bad):
        self.assertEqual(first_bad(cluster, start, switches), bad)
        one, other, _ = (cluster.bundles() or [(0, 1, 0)])[0]
        calls = [lambda: possible_leads(cluster, start, switches)]
        if len(cluster):
            calls.append(lambda: led_range(cluster, start, switches, one, other))
        for call in calls:
            with self.assertRaises(Impossible) as caught:
                call()
            self.assertEqual(caught.exception.at, bad)

    def check_good(self, cluster, start, switches):
        """Check possible leads, and return the ranges of all bundles."""
        self.assertIs(first_bad(cluster, start, switches), None)
        leads = possible_leads(cluster, start, switches)
        rows = cluster.bundles()
        self.assertIsInstance(leads, tuple)
        self.assertTrue(all(0 <= number <= row[2] for number, row in zip(leads, rows)))
        self.assertEqual(loads_of(cluster.size(), rows, leads), start)
        if switches:
            play(cluster, leads, [(1, [(one, other, 1) for one, other in switches])])
        found = []
        for number, (first, second, partitions) in zip(leads, rows):
            least, most = led_range(cluster, start, switches, first, second)
            self.assertTrue(0 <= least <= number <= most <= partitions)
            self.assertEqual(led_range(cluster, start, switches, second, first),
                             (partitions - most, partitions - least))
            found.append((least, most))
        return found

    def test_against_a_search(self):
        counts = {}
        for cluster, start, switches in RECORDS:
            bad, possible = searched(cluster, start, switches)
            word = "good" if bad is None else "last" if bad == len(switches) - 1 > 0 else min(bad, 1)
            counts[word] = counts.get(word, 0) + 1
            if bad is None:
                self.assertIn(possible_leads(cluster, start, switches), possible)
                for at, found in enumerate(self.check_good(cluster, start, switches)):
                    numbers = {leads[at] for leads in possible}
                    self.assertEqual(numbers, set(range(min(numbers), max(numbers) + 1)))
                    self.assertEqual(found, (min(numbers), max(numbers)))
            else:
                self.check_bad(cluster, start, switches, bad)
        self.assertTrue(all(counts.get(word, 0) > 15 for word in ("good", "last", -1, 0, 1)), counts)

    def test_the_empty_record(self):
        for cluster, start, _ in RECORDS[:80]:
            bad, possible = searched(cluster, start, [])
            self.assertIn(bad, (None, -1))
            if bad is None:
                self.assertIn(possible_leads(cluster, start, []), possible)
        self.assertEqual(led_range(ROW, [3, 3, 3], [], 0, 1), (0, 3))
        self.assertEqual(led_range(ROW, [6, 3, 0], [], 0, 1), (3, 3))
        self.check_bad(ROW, [3, 3, 4], [], -1)
        self.check_bad(ROW, [7, 2, 0], [], -1)
        empty = Cluster([(0, 1), (0, 0)], [])
        self.assertEqual([first_bad(empty, [0, 0], []), possible_leads(empty, [0, 0], [])], [None, ()])
        self.check_bad(empty, [1, 0], [], -1)

    def test_each_reason(self):
        # The floor of one, the ceiling of other, and the partitions of the bundle.
        pair = Cluster([(2, 9), (0, 4)], [(0, 1, 6)])
        self.check_bad(pair, [4, 2], [(0, 1)] * 3, 2)
        self.check_bad(pair.bounded(1, 0, 3), [4, 2], [(0, 1)] * 3, 1)
        self.check_bad(pair.bounded(0, 0, 9).bounded(1, 0, 9), [4, 2], [(0, 1)] * 5, 4)
        self.check_bad(pair.bounded(1, 2, 9), [4, 2], [(1, 0)], 0)
        self.check_bad(pair.bounded(0, 2, 4), [4, 2], [(0, 1), (1, 0), (1, 0)], 2)
        self.check_bad(Cluster([(4, 4), (0, 9)], [(0, 1, 6)]), [4, 2], [(0, 1)], 0)
        self.check_good(pair, [4, 2], [(0, 1), (0, 1), (1, 0), (1, 0), (0, 1)])

    def test_what_the_switches_tell(self):
        for switches, found in (([], (0, 3)), ([(0, 1)], (1, 3)), ([(0, 1)] * 2, (2, 3)), ([(0, 1)] * 3, (3, 3)),
                                ([(0, 1), (1, 0)], (1, 3)), ([(1, 0), (0, 1), (0, 1)], (1, 2)), ([(1, 0)], (0, 2)),
                                ([(1, 2), (1, 2)], (2, 3)), ([(2, 0), (1, 0)], (1, 2)), ([(0, 2)] * 3, (0, 0))):
            self.assertEqual(led_range(ROW, [3, 3, 3], switches, 0, 1), found)
        # What one bundle tells also tells of the other ones: the ring has only one degree of freedom.
        self.check_good(ROW, [3, 3, 3], [(0, 1), (0, 1), (2, 1)])
        self.check_bad(ROW, [3, 3, 3], [(0, 1), (0, 1), (0, 1), (2, 1)], 3)
        self.check_bad(ROW, [3, 3, 3], [(0, 1), (1, 0), (0, 1), (0, 2), (0, 2), (0, 2)], 5)

    def test_300_switches(self):
        pair = Cluster([(0, MOST), (0, MOST)], [(0, 1, MANY)])
        half = [MANY // 2] * 2
        self.assertEqual(led_range(pair, half, [(0, 1)] * 300, 0, 1), (MANY // 2, MANY // 2))
        self.check_good(pair, half, [(0, 1), (1, 0)] * 150)
        self.check_good(pair, [300, MANY - 300], [(0, 1)] * 300)
        self.check_bad(pair, [299, MANY - 299], [(0, 1)] * 300, 299)
        self.check_bad(pair, [0, MANY], [(0, 1)] * 300, 0)
        self.check_bad(pair, [1, MANY], [(0, 1)] * 300, -1)
        ring, _ = great_ring(0, MOST)
        start = [MANY] * 3
        for switches, found in (([(0, 1)] * 300, (300, MANY)), ([(1, 0)] * 300, (0, MANY - 300)), ([], (0, MANY)),
                                ([(0, 1)] * 100 + [(0, 2)] * 200, (100, MANY - 200)),
                                ([(0, 1)] * 100 + [(1, 0)] * 200, (100, MANY - 100)),
                                ([(1, 2), (2, 0), (0, 1)] * 100, (100, MANY)),
                                ([(1, 2)] * 150 + [(0, 2)] * 150, (150, MANY - 150))):
            self.assertEqual(led_range(ring, start, switches, 0, 1), found)
            self.check_good(ring, start, switches)
        tight = Cluster([(0, MOST)] * 3, [(0, 1, 100), (1, 2, 100), (0, 2, 100)])
        self.check_bad(tight, [100] * 3, [(0, 1)] * 60 + [(0, 2)] * 60, 100)
        self.assertEqual(led_range(tight, [100] * 3, [(0, 1)] * 60 + [(0, 2)] * 40, 0, 1), (60, 60))

    def test_great_counts(self):
        chance, bads = random.Random(131), 0
        worlds = great_worlds(132, 12) + [world[:2] for world in great_goals(133, 12)]
        for cluster, leads in worlds:
            start = loads_of(10, cluster.bundles(), leads)
            good = some_switches(chance, cluster, leads, 300, 1 if next_leads(cluster, leads) else 0)
            bad = first_bad(cluster, start, good)
            if next_leads(cluster, leads):
                self.assertIsNone(bad)
                found = self.check_good(cluster, start, good)
                bounds = led_bounds(cluster, good)
                for at in chance.sample(range(len(cluster)), 6):
                    for number in found[at]:
                        self.assertIs(self.has(cluster, start, bounds, at, number), True)
                    for number in (found[at][0] - 1, found[at][1] + 1):
                        self.assertIs(self.has(cluster, start, bounds, at, number), False)
            for _ in range(3):
                some = some_switches(chance, cluster, leads, 60, 0.9)
                bad = first_bad(cluster, start, some)
                bads += bad is not None
                self.assertIs(is_good(cluster, start, some[:bad]), True)
                if bad is not None:
                    self.assertIs(is_good(cluster, start, some[:bad + 1]), False)
                    self.check_bad(cluster, start, some, bad)
        self.assertGreater(bads, 20)

    def has(self, cluster, start, bounds, at, number):
        """Return whether some leads within the bounds have this number at a place."""
        least, most = bounds[at]
        exact = bounds[:at] + [(number, number)] + bounds[at + 1:]
        return least <= number <= most and are_possible(cluster, start, exact)

    def test_rigid_brokers(self):
        cluster = Cluster([(3, 3), (0, 9), (0, 9)], ROW.bundles())
        self.check_bad(cluster, [3, 3, 3], [(1, 2), (0, 1)], 1)
        self.check_bad(cluster, [3, 3, 3], [(1, 2), (1, 0)], 1)
        # The observer does not know the leads of the bundles of broker 0.
        self.assertEqual(led_range(cluster, [3, 3, 3], [(1, 2)] * 2, 0, 1), (2, 3))


class SameTest(unittest.TestCase):
    def told(self, cluster, start, switches):
        bad = first_bad(cluster, start, switches)
        if bad is not None:
            return [bad]
        ranges = [led_range(cluster, start, switches, one, other) for one, other, _ in cluster.bundles()]
        return [bad, possible_leads(cluster, start, switches), ranges]

    def test_two_records_by_turns(self):
        one, other = ([3, 3, 3], [(0, 1)] * 2), ([6, 3, 0], [(1, 2)])
        first, second = self.told(ROW, *one), self.told(ROW, *other)
        self.assertNotEqual(first, second)
        for found, expected in ((one, first), (other, second), (one, first), (other, second)):
            self.assertEqual(self.told(ROW, *found), expected)

    def test_changed_clusters(self):
        for cluster, start, switches in RECORDS[:150]:
            for changed in anew(cluster):
                self.assertEqual(self.told(changed, start, switches), self.told(cluster, start, switches))

    def test_arguments_stay(self):
        start, switches = [3, 3, 3], [(0, 1), (0, 1), (0, 2), (0, 1)]
        before = copy.deepcopy([start, switches])
        for _ in range(2):
            self.assertEqual(first_bad(ROW, start, switches), 3)
            self.assertEqual(led_range(ROW, start, switches[:3], 0, 1), (2, 2))
            self.assertEqual(possible_leads(ROW, start, switches[:3]), (2, 2, 1))
            with self.assertRaises(Impossible):
                led_range(ROW, start, switches, 0, 1)
        self.assertEqual([start, switches], before)
        self.assertEqual(ROW, Cluster([(0, 9)] * 3, [(one, other, 3) for one, other, _ in RING]))


if __name__ == "__main__":
    unittest.main()
