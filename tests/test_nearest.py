"""The fewest switches to ranges, and prices and sets that show it [3] [9] [10] [60]."""

import copy
import itertools
import random
import unittest

from leadswitch.clusters import Cluster
from leadswitch.nearest import is_never, to_ranges, worth
from leadswitch.plans import is_plan, length, play
from values import any_values, no_integers
from worlds import RING, distances, great_cluster, great_goals, great_ring, loads_of, some_worlds

ROW = Cluster([(0, 10), (0, 6), (0, 10)], [(0, 1, 5), (1, 2, 5)])


def some_ranges(chance, cluster):
    found = []
    for floor, ceiling in cluster.bounds():
        least = chance.choice((floor, chance.randint(floor, ceiling)))
        found.append((least, chance.choice((ceiling, chance.randint(least, ceiling)))))
    return found


def some_ranges_around(chance, cluster, leads):
    """Return ranges with the loads of some leads to which a plan leads."""
    goal = chance.choice(sorted(distances(cluster, leads)))
    have = loads_of(cluster.size(), cluster.bundles(), goal)
    return [chance.choice(((load, load), (load, ceiling), (floor, load), (load, load)))
            for load, (floor, ceiling) in zip(have, cluster.bounds())]


def some_wishes(seed, many):
    """Return tuples (cluster, leads, ranges)."""
    chance = random.Random(seed)
    found = []
    for cluster, leads in some_worlds(seed, many, sizes=(2, 3, 4)) + some_worlds(seed, many, sizes=(4, 5), most=1):
        if chance.random() < 0.7:
            bounds = [(max(0, floor - 2), ceiling + 2) if floor < ceiling else (floor, ceiling)
                      for floor, ceiling in cluster.bounds()]
            cluster = Cluster(bounds, cluster.bundles())
        found.append((cluster, leads, some_ranges(chance, cluster)))
        found.append((cluster, leads, some_ranges_around(chance, cluster, leads)))
    return found


WISHES = some_wishes(60, 200)


def are_in(cluster, leads, ranges):
    have = loads_of(cluster.size(), cluster.bundles(), leads)
    return all(least <= load <= most for load, (least, most) in zip(have, ranges))


def led_by(cluster, leads):
    """Return the dict of how many partitions one leads of its bundle with other, neither being rigid."""
    found = {}
    for number, (first, second, partitions) in zip(leads, cluster.bundles()):
        if all(cluster.floor(broker) < cluster.ceiling(broker) for broker in (first, second)):
            found[(first, second)] = number
            found[(second, first)] = partitions - number
    return found


def defined_worth(cluster, leads, ranges, prices):
    have = loads_of(cluster.size(), cluster.bundles(), leads)
    parts = [price * (load - (most if price > 0 else least))
             for load, (least, most), price in zip(have, ranges, prices)]
    parts += [-many * max(0, prices[one] - prices[other] - 1) for (one, other), many in led_by(cluster, leads).items()]
    return sum(parts)


def defined_nevers(cluster, leads, ranges):
    """Return the list of all sets that show that no plan leads into ranges."""
    have, led = loads_of(cluster.size(), cluster.bundles(), leads), led_by(cluster, leads)
    brokers = [broker for broker in range(cluster.size()) if cluster.floor(broker) < cluster.ceiling(broker)]
    found = []
    for many in range(1, len(brokers) + 1):
        for members in itertools.combinations(brokers, many):
            total = sum(have[broker] for broker in members)
            out = sum(many for (one, other), many in led.items() if one in members and other not in members)
            into = sum(many for (one, other), many in led.items() if one not in members and other in members)
            if total - out > sum(ranges[broker][1] for broker in members):
                found.append(list(members))
            elif total + into < sum(ranges[broker][0] for broker in members):
                found.append(list(members))
    return found


class ToRangesTest(unittest.TestCase):
    def check_plan(self, cluster, leads, ranges, many=None):
        """Check what is found, and return the number of switches."""
        word, plan, prices = to_ranges(cluster, leads, ranges)
        self.assertEqual(word, "plan")
        self.assertIs(is_plan(cluster, plan), True)
        self.assertTrue(are_in(cluster, play(cluster, leads, plan), ranges))
        self.assertEqual([len(prices), {price.__class__ for price in prices}], [cluster.size(), {int}])
        for broker, price in enumerate(prices):
            if cluster.floor(broker) == cluster.ceiling(broker):
                self.assertEqual(price, 0)
        self.assertEqual(length(plan), defined_worth(cluster, leads, ranges, prices))
        self.assertEqual(length(plan), worth(cluster, leads, ranges, prices))
        if many is not None:
            self.assertEqual(length(plan), many)

    def check_never(self, cluster, leads, ranges):
        found = to_ranges(cluster, leads, ranges)
        self.assertEqual((found[0], len(found)), ("never", 2))
        self.assertIs(is_never(cluster, leads, ranges, found[1]), True)
        return found[1]

    def test_against_a_search(self):
        counts = {}
        for cluster, leads, ranges in WISHES:
            near = distances(cluster, leads)
            best = min([steps for after, steps in near.items() if are_in(cluster, after, ranges)], default=None)
            counts[best] = counts.get(best, 0) + 1
            if best is None:
                self.assertIn(self.check_never(cluster, leads, ranges), defined_nevers(cluster, leads, ranges))
            else:
                self.check_plan(cluster, leads, ranges, best)
        self.assertTrue(all(counts.get(best, 0) > 10 for best in (None, 0, 1, 2, 3)), counts)

    def test_loads_that_are_in_their_ranges(self):
        for cluster, leads, _ in WISHES + [great_cluster() + (None,)]:
            self.assertEqual(to_ranges(cluster, leads, cluster.bounds())[:2], ("plan", []))
            exact = [(load, load) for load in loads_of(cluster.size(), cluster.bundles(), leads)]
            self.check_plan(cluster, leads, exact, 0)

    def test_too_many_and_too_few_for_all(self):
        self.assertEqual(self.check_never(ROW, (5, 5), [(0, 2), (0, 2), (0, 2)]), [0, 1, 2])
        self.assertEqual(self.check_never(ROW, (5, 5), [(0, 10), (6, 6), (5, 10)]), [0, 1, 2])
        self.check_plan(ROW, (5, 5), [(4, 4), (6, 6), (0, 0)], 1)

    def test_rigid_brokers(self):
        cluster = Cluster([(0, 9), (5, 5), (0, 9)], [(0, 1, 5), (1, 2, 5)])
        self.assertEqual(self.check_never(cluster, (5, 5), [(0, 4), (5, 5), (0, 9)]), [0])
        self.assertEqual(self.check_never(cluster, (5, 5), [(0, 9), (5, 5), (1, 9)]), [2])
        self.check_plan(cluster, (5, 5), [(5, 9), (5, 5), (0, 0)], 0)
        self.check_plan(Cluster([(1, 1), (1, 1)], [(0, 1, 2)]), (1,), [(1, 1), (1, 1)], 0)
        self.check_plan(Cluster([(0, 0), (0, 0)], []), (), [(0, 0), (0, 0)], 0)

    def test_a_ceiling_of_10_to_the_30(self):
        many, most = 10 ** 18, 10 ** 30
        cluster = Cluster([(0, most)] * 3, [(0, 1, many), (1, 2, many)])
        self.check_plan(cluster, (many, many), [(0, 0), (0, most), (0, most)], many)
        self.check_plan(cluster, (many, many), [(0, 0), (0, many), (0, most)], 2 * many)
        self.check_plan(cluster, (many, many), [(0, most), (0, most), (many, most)], many)
        self.assertEqual(self.check_never(cluster, (many, many), [(0, most), (0, most), (many + 1, most)]), [2])
        self.check_never(cluster, (many, many), [(most, most), (0, most), (0, most)])

    def test_the_greatest_counts_of_ten_brokers(self):
        chance, words = random.Random(61), []
        cluster, leads = great_cluster()
        have = loads_of(10, cluster.bundles(), leads)
        around = [(max(0, load - chance.randint(0, 10 ** 18)), load + chance.randint(0, 10 ** 18)) for load in have]
        wishes = [(cluster, leads, around), (cluster, leads, [(4 * 10 ** 18, 5 * 10 ** 18)] * 10),
                  (cluster, leads, [(0, 10 ** 30)] * 9 + [(9 * 10 ** 18, 10 ** 30)])]
        for cluster, leads, goal in great_goals(62, 40):
            wishes.append((cluster, leads, [(load, load) for load in loads_of(10, cluster.bundles(), goal)]))
            middle = [(floor, min(ceiling, 9 * 10 ** 18)) for floor, ceiling in cluster.bounds()]
            wishes.append((cluster, leads, [(least, max(least, most)) for least, most in middle]))
            leasts = [chance.randint(least, max(least, most)) for least, most in middle]
            wishes.append((cluster, leads, [(least, row[1]) for least, row in zip(leasts, cluster.bounds())]))
        for cluster, leads, ranges in wishes:
            words.append(to_ranges(cluster, leads, ranges)[0])
            if words[-1] == "plan":
                self.check_plan(cluster, leads, ranges)
            else:
                self.check_never(cluster, leads, ranges)
        self.assertTrue(words.count("plan") > 20 and words.count("never") > 10)

    def test_a_ring_at_its_floors(self):
        many = 10 ** 18
        cluster, leads = great_ring(many, 10 ** 30)
        self.check_plan(cluster, leads, [(many, many)] * 3, 0)
        self.check_never(cluster, leads, [(many, many)] * 2 + [(many + 1, 10 ** 30)])


class WorthTest(unittest.TestCase):
    def test_no_plan_has_fewer_switches(self):
        chance = random.Random(63)
        for cluster, leads, ranges in WISHES:
            near = distances(cluster, leads)
            best = min([steps for after, steps in near.items() if are_in(cluster, after, ranges)], default=None)
            for _ in range(5):
                prices = [chance.randint(-4, 4) * (floor < ceiling) for floor, ceiling in cluster.bounds()]
                found = worth(cluster, leads, ranges, prices)
                self.assertEqual(found, defined_worth(cluster, leads, ranges, prices))
                if best is not None:
                    self.assertLessEqual(found, best)

    def test_each_part(self):
        ranges = [(2, 3), (1, 4), (0, 10)]
        self.assertEqual(worth(ROW, (5, 5), ranges, [0, 0, 0]), 0)
        self.assertEqual(worth(ROW, (5, 5), ranges, [1, 0, 0]), 2)
        self.assertEqual(worth(ROW, (5, 5), ranges, [0, -1, 0]), -4)
        self.assertEqual(worth(ROW, (5, 5), ranges, [0, 0, -3]), 0 - 5 * 2)
        self.assertEqual(worth(ROW, (5, 5), ranges, [3, 1, 0]), 6 + 1 - 5)
        self.assertEqual(worth(ROW, (5, 5), ranges, [2, 1, 0]), 4 + 1)
        self.assertEqual(worth(ROW, (2, 5), ranges, [10 ** 20, 0, 0]), 10 ** 20 * -1 - 2 * (10 ** 20 - 1))


class IsNeverTest(unittest.TestCase):
    def test_against_the_definition(self):
        for cluster, leads, ranges in WISHES:
            nevers = defined_nevers(cluster, leads, ranges)
            for many in range(cluster.size() + 1):
                for members in itertools.combinations(range(cluster.size()), many):
                    self.assertIs(is_never(cluster, leads, ranges, list(members)), list(members) in nevers)

    def test_a_set_exists_exactly_if_no_plan_does(self):
        for cluster, leads, ranges in WISHES:
            some = any(are_in(cluster, after, ranges) for after in distances(cluster, leads))
            self.assertEqual(defined_nevers(cluster, leads, ranges) == [], some)

    def test_any_values(self):
        ranges = [(0, 10), (0, 6), (9, 10)]
        self.assertIs(is_never(ROW, (5, 5), ranges, [2]), True)
        for thing in any_values():
            self.assertIs(is_never(ROW, (5, 5), ranges, thing), False)
        for thing in no_integers():
            self.assertIs(is_never(ROW, (5, 5), ranges, [thing]), False)
            self.assertIs(is_never(ROW, (5, 5), ranges, [thing, 2]), False)
        for thing in ((2,), [2, 2], [3], [-1], [2, 3], [10 ** 41], [2, 1], {2: 2}, [], [True], "2"):
            self.assertIs(is_never(ROW, (5, 5), ranges, thing), False)

    def test_rigid_brokers(self):
        cluster = Cluster([(0, 9), (5, 5), (0, 9)], [(0, 1, 5), (1, 2, 5)])
        ranges = [(0, 4), (5, 5), (0, 9)]
        self.assertIs(is_never(cluster, (5, 5), ranges, [0]), True)
        self.assertIs(is_never(cluster, (5, 5), ranges, [0, 1]), False)


class SameTest(unittest.TestCase):
    def test_nothing_changes_and_lists_are_new(self):
        cluster, ranges, prices, thing = Cluster([(0, 3)] * 3, RING), [(0, 0), (0, 3), (0, 3)], [1, 0, 0], [0]
        first, before = to_ranges(cluster, (1, 1, 0), ranges), copy.deepcopy([ranges, prices, thing])
        for _ in range(2):
            found = to_ranges(cluster, (1, 1, 0), ranges)
            self.assertEqual(found, first)
            found[1][0][1].append(1)
            found[1].append(1)
            found[2].append(1)
            self.assertEqual(worth(cluster, (1, 1, 0), ranges, prices), 1)
            self.assertIs(is_never(cluster, (1, 1, 0), ranges, thing), False)
            never = to_ranges(ROW, (5, 5), [(0, 10), (0, 6), (9, 10)])
            self.assertEqual(never, ("never", [2]))
            never[1].append(3)
        self.assertEqual([ranges, prices, thing], before)
        self.assertEqual(cluster, Cluster([(0, 3)] * 3, RING))


if __name__ == "__main__":
    unittest.main()
