"""Loads that come about, their greatest and least sums and worths, and partners [2] [3] [10] [70] [71] [72]."""

import copy
import random
import unittest

from leadswitch.clusters import Cluster
from leadswitch.extremes import best, comes_about, greatest_sum, least_sum, partner, sum_bound
from leadswitch.nearest import to_ranges
from worlds import RING, abouts, anew, great_cluster, great_ring, great_worlds, loads_of, sets_of, wide_worlds

WORLDS = wide_worlds(90, 120)
GREAT = great_worlds(91, 30)
MANY, MOST = 10 ** 18, 10 ** 30
ROW = Cluster([(0, 10), (0, 6), (0, 10)], [(0, 1, 5), (1, 2, 5)])


def loads_at(cluster, leads):
    return loads_of(cluster.size(), cluster.bundles(), leads)


def is_planned(cluster, leads, loads):
    """Return whether loads come about, as [60] tells."""
    if any(not floor <= load <= ceiling for load, (floor, ceiling) in zip(loads, cluster.bounds())):
        return False
    return to_ranges(cluster, leads, [(load, load) for load in loads])[0] == "plan"


def defined_bound(cluster, leads, brokers, members, greatest):
    """Return the number of [70], word by word."""
    have = loads_at(cluster, leads)
    rigid = [floor == ceiling for floor, ceiling in cluster.bounds()]
    into, out = 0, 0
    for number, (first, second, partitions) in zip(leads, cluster.bundles()):
        for one, other, led in ((first, second, number), (second, first, partitions - number)):
            if not rigid[one] and not rigid[other]:
                into += led * (one not in members and other in members)
                out += led * (one in members and other not in members)
    number = sum(have[broker] for broker in members)
    if greatest:
        number += into - sum(cluster.floor(broker) for broker in members if broker not in brokers)
        return number + sum(cluster.ceiling(broker) for broker in brokers if broker not in members)
    number -= out + sum(cluster.ceiling(broker) for broker in members if broker not in brokers)
    return number + sum(cluster.floor(broker) for broker in brokers if broker not in members)


class ComesAboutTest(unittest.TestCase):
    def test_against_a_search(self):
        chance, counts = random.Random(92), {True: 0, False: 0}
        for cluster, leads in WORLDS:
            found = abouts(cluster, leads)
            for _ in range(12):
                loads = [load + chance.choice((-1, 0, 0, 1)) for load in chance.choice(found)]
                counts[loads in found] += 1
                self.assertIs(comes_about(cluster, leads, loads), loads in found)
            for loads in found[:20]:
                self.assertIs(comes_about(cluster, leads, loads), True)
        self.assertGreater(min(counts.values()), 200)

    def test_loads_of_forty_digits_and_below_0(self):
        for cluster, leads in GREAT + WORLDS[:20]:
            have = loads_at(cluster, leads)
            self.assertIs(comes_about(cluster, leads, have), True)
            for many in (1, 10 ** 18, 10 ** 30, 10 ** 39, 10 ** 40 - 1):
                for one, other in ((0, 1), (1, 0)):
                    loads = list(have)
                    loads[one] += many
                    self.assertIs(comes_about(cluster, leads, loads), False)
                    loads[other] -= many
                    self.assertIs(comes_about(cluster, leads, loads), is_planned(cluster, leads, loads))
            self.assertIs(comes_about(cluster, leads, [-1] * cluster.size()), False)
            self.assertIs(comes_about(cluster, leads, [10 ** 40 - 1] * cluster.size()), False)

    def test_within_the_bounds(self):
        self.assertIs(comes_about(ROW, (5, 5), [0, 6, 4]), True)
        self.assertIs(comes_about(ROW, (5, 5), [0, 7, 3]), False)
        self.assertIs(comes_about(ROW.bounded(1, 0, 7), (5, 5), [0, 7, 3]), True)
        self.assertIs(comes_about(ROW.bounded(0, 1, 10), (5, 5), [0, 6, 4]), False)
        self.assertIs(comes_about(ROW, (5, 5), [-1, 6, 5]), False)

    def test_the_greatest_counts(self):
        ring, leads = great_ring(MANY, MOST)
        self.assertIs(comes_about(ring, leads, [MANY] * 3), True)
        self.assertIs(comes_about(ring, leads, [MANY + 1, MANY - 1, MANY]), False)
        ring, leads = great_ring(0, MOST)
        for loads, found in (([2 * MANY, MANY, 0], True), ([2 * MANY, 0, MANY], True),
                             ([2 * MANY + 1, MANY - 1, 0], False),
                             ([0, MANY - 1, 2 * MANY + 1], False), ([MANY + 1, 2 * MANY - 1, 0], True)):
            self.assertIs(comes_about(ring, leads, loads), found)

    def test_rigid_brokers(self):
        alone = Cluster([(1, 1), (1, 1)], [(0, 1, 2)])
        self.assertIs(comes_about(alone, (1,), [1, 1]), True)
        self.assertIs(comes_about(alone, (1,), [0, 2]), False)
        cluster = Cluster([(0, 9), (5, 5), (0, 9)], [(0, 1, 5), (1, 2, 5), (0, 2, 2)])
        self.assertIs(comes_about(cluster, (3, 3, 1), [4, 5, 3]), True)
        self.assertIs(comes_about(cluster, (3, 3, 1), [5, 5, 2]), True)
        # Broker 1 can hand nothing on.
        self.assertIs(comes_about(cluster, (3, 3, 1), [6, 5, 1]), False)
        self.assertIs(comes_about(cluster.bounded(1, 4, 5), (3, 3, 1), [6, 5, 1]), True)

    def test_without_bundles(self):
        cluster = Cluster([(0, 1), (0, 0)], [])
        self.assertIs(comes_about(cluster, (), [0, 0]), True)
        self.assertIs(comes_about(cluster, (), [1, 0]), False)
        self.assertIs(comes_about(cluster, (), [1, -1]), False)


class SumsTest(unittest.TestCase):
    def check(self, cluster, leads, brokers):
        """Check the sums of a set, and return the least and the greatest one."""
        found = []
        for greatest, asked in ((False, least_sum), (True, greatest_sum)):
            told = asked(cluster, leads, brokers)
            self.assertEqual((told.__class__, len(told)), (tuple, 2))
            number, members = told
            self.assertEqual(members, sorted(set(members)))
            self.assertTrue(all(cluster.floor(broker) < cluster.ceiling(broker) for broker in members))
            self.assertEqual(defined_bound(cluster, leads, brokers, members, greatest), number)
            self.assertEqual(sum_bound(cluster, leads, brokers, members, greatest), number)
            found.append(number)
        return found

    def test_against_a_search(self):
        for cluster, leads in WORLDS:
            found = abouts(cluster, leads)
            for brokers in sets_of(cluster.size()):
                sums = {sum(loads[broker] for broker in brokers) for loads in found}
                # All integers from the least one to the greatest one [10].
                self.assertEqual(sums, set(range(min(sums), max(sums) + 1)))
                self.assertEqual(self.check(cluster, leads, brokers), [min(sums), max(sums)])

    def test_sum_bound_against_the_definition(self):
        chance = random.Random(93)
        for cluster, leads in WORLDS[::3] + GREAT:
            all_sets = sets_of(min(cluster.size(), 6))
            for brokers in chance.sample(all_sets, 4):
                for members in chance.sample(all_sets, 4) + [list(range(cluster.size()))]:
                    for greatest in (True, False):
                        self.assertEqual(sum_bound(cluster, leads, brokers, members, greatest),
                                         defined_bound(cluster, leads, brokers, members, greatest))

    def test_no_loads_pass_a_bound(self):
        for cluster, leads in WORLDS[::4]:
            found = abouts(cluster, leads)
            rigid = [broker for broker in range(cluster.size()) if cluster.is_rigid(broker)]
            for brokers in sets_of(cluster.size()):
                sums = [sum(loads[broker] for broker in brokers) for loads in found]
                for members in sets_of(cluster.size()):
                    if not any(broker in rigid for broker in members):
                        self.assertGreaterEqual(sum_bound(cluster, leads, brokers, members, True), max(sums))
                        self.assertLessEqual(sum_bound(cluster, leads, brokers, members, False), min(sums))

    def test_the_empty_set_and_all_brokers(self):
        for cluster, leads in WORLDS + GREAT:
            have, everyone = loads_at(cluster, leads), list(range(cluster.size()))
            self.assertEqual(self.check(cluster, leads, []), [0, 0])
            self.assertEqual(self.check(cluster, leads, everyone), [sum(have)] * 2)
            self.assertEqual([sum_bound(cluster, leads, [], [], greatest) for greatest in (True, False)], [0, 0])
            self.assertEqual(sum_bound(cluster, leads, everyone, everyone, True), sum(have))
            self.assertEqual(sum_bound(cluster, leads, everyone, everyone, False), sum(have))
            self.assertEqual(sum_bound(cluster, leads, everyone, [], True), sum(row[1] for row in cluster.bounds()))
            self.assertEqual(sum_bound(cluster, leads, everyone, [], False), sum(row[0] for row in cluster.bounds()))
            floors, ceilings = [sum(row[at] for row in cluster.bounds()) for at in (0, 1)]
            self.assertEqual(sum_bound(cluster, leads, [], everyone, True), sum(have) - floors)
            self.assertEqual(sum_bound(cluster, leads, [], everyone, False), sum(have) - ceilings)

    def test_great_counts(self):
        chance = random.Random(94)
        for cluster, leads in GREAT:
            for brokers in [[broker] for broker in range(10)] + chance.sample(sets_of(10), 8):
                least, greatest = self.check(cluster, leads, brokers)
                weights = [int(broker in brokers) for broker in range(10)]
                self.assertEqual(best(cluster, leads, weights)[0], greatest)
                self.assertEqual(self.check(cluster, leads, [each for each in range(10) if each not in brokers]),
                                 [sum(loads_at(cluster, leads)) - greatest, sum(loads_at(cluster, leads)) - least])

    def test_numbers(self):
        self.assertEqual([greatest_sum(ROW, (5, 5), [1])[0], greatest_sum(ROW.bounded(1, 0, 60), (5, 5), [1])[0]],
                         [6, 10])
        self.assertEqual([sum_bound(ROW, (5, 5), [1], members, True) for members in ([], [1], [0, 1], [0, 1, 2])],
                         [6, 10, 10, 10])
        self.assertEqual([least_sum(ROW, (5, 5), [0, 1])[0], least_sum(ROW, (5, 5), [2])[0]], [5, 0])
        self.assertEqual([sum_bound(ROW, (5, 5), [0, 1], members, False) for members in ([], [0], [0, 1], [0, 1, 2])],
                         [0, 0, 5, 0])
        ring, leads = great_ring(0, MOST)
        self.assertEqual([self.check(ring, leads, brokers) for brokers in ([0], [0, 2])],
                         [[0, 2 * MANY], [MANY, 3 * MANY]])
        ring, leads = great_ring(MANY, MOST)
        self.assertEqual([self.check(ring, leads, brokers) for brokers in ([0], [0, 2])], [[MANY] * 2, [2 * MANY] * 2])

    def test_rigid_brokers(self):
        alone = Cluster([(1, 1), (1, 1)], [(0, 1, 2)])
        for brokers, number in (([], 0), ([0], 1), ([1], 1), ([0, 1], 2)):
            self.assertEqual([greatest_sum(alone, (1,), brokers), least_sum(alone, (1,), brokers)], [(number, [])] * 2)
        cluster = Cluster([(0, 9), (5, 5), (0, 9)], [(0, 1, 5), (1, 2, 5), (0, 2, 2)])
        for brokers, sums in (([0], [3, 5]), ([1], [5, 5]), ([2], [2, 4]), ([0, 1], [8, 10]), ([0, 2], [7, 7])):
            self.assertEqual(self.check(cluster, (3, 3, 1), brokers), sums)
        # Members that are rigid count with their loads and their bounds, but with none of their partitions.
        self.assertEqual(sum_bound(cluster, (3, 3, 1), [0], [1], True), 5 - 5 + 9)
        self.assertEqual(sum_bound(cluster, (3, 3, 1), [0], [1], False), 5 - 5 + 0)
        self.assertEqual(sum_bound(cluster, (3, 3, 1), [1, 2], [1], True), 5 + 9)

    def test_without_bundles(self):
        cluster = Cluster([(0, 1), (0, 0)], [])
        for brokers in sets_of(2):
            self.assertEqual(self.check(cluster, (), brokers), [0, 0])


class BestTest(unittest.TestCase):
    def check(self, cluster, leads, weights):
        """Check what best tells, and return the worth."""
        told = best(cluster, leads, weights)
        self.assertEqual((told.__class__, len(told)), (tuple, 3))
        worth, loads, levels = told
        self.assertEqual(worth, sum(weight * load for weight, load in zip(weights, loads)))
        self.assertIs(is_planned(cluster, leads, loads), True)
        self.assertEqual([weight for weight, _ in levels], sorted(set(weights), reverse=True))
        total, nexts = 0, [weight for weight, _ in levels[1:]] + [0]
        for (weight, members), after in zip(levels, nexts):
            brokers = [broker for broker, each in enumerate(weights) if each >= weight]
            number = defined_bound(cluster, leads, brokers, members, True)
            self.assertEqual(members, sorted(set(members)))
            self.assertFalse(any(cluster.is_rigid(broker) for broker in members))
            self.assertEqual(number, greatest_sum(cluster, leads, brokers)[0])
            self.assertEqual(sum(loads[broker] for broker in brokers), number)
            total += number * (weight - after)
        self.assertEqual(total, worth)
        return worth

    def test_against_a_search(self):
        chance = random.Random(95)
        for cluster, leads in WORLDS:
            found = abouts(cluster, leads)
            for most in (1, 3, 10 ** 9):
                weights = [chance.randint(0, most) for _ in range(cluster.size())]
                worths = [sum(weight * load for weight, load in zip(weights, loads)) for loads in found]
                self.assertEqual(self.check(cluster, leads, weights), max(worths))
                self.assertIn(best(cluster, leads, weights)[1], found)

    def test_equal_weights_and_weights_of_0(self):
        for cluster, leads in WORLDS[::3] + GREAT:
            total, size = sum(loads_at(cluster, leads)), cluster.size()
            for weight in (0, 1, 10 ** 9):
                self.assertEqual(self.check(cluster, leads, [weight] * size), weight * total)
                self.assertEqual(len(best(cluster, leads, [weight] * size)[2]), 1)

    def test_great_counts(self):
        chance = random.Random(96)
        for cluster, leads in GREAT:
            for most in (1, 5, 10 ** 9):
                self.check(cluster, leads, [chance.randint(0, most) for _ in range(10)])
            self.check(cluster, leads, list(range(10)))
            self.check(cluster, leads, [10 ** 9 - at for at in range(10)])
        ring, leads = great_ring(0, MOST)
        self.assertEqual(best(ring, leads, [10 ** 9, 0, 1])[:2], ((2 * 10 ** 9 + 1) * MANY, [2 * MANY, 0, MANY]))

    def test_the_loads_have_the_greatest_sums_at_once(self):
        self.assertEqual(best(ROW, (5, 5), [3, 1, 2])[:2], (25, [5, 0, 5]))
        self.assertEqual(best(ROW, (5, 5), [1, 3, 2])[:2], (26, [0, 6, 4]))
        self.assertEqual(best(ROW, (5, 5), [0, 0, 2])[0], 10)

    def test_rigid_brokers(self):
        alone = Cluster([(1, 1), (1, 1)], [(0, 1, 2)])
        self.assertEqual(best(alone, (1,), [7, 5]), (12, [1, 1], [(7, []), (5, [])]))
        cluster = Cluster([(0, 9), (5, 5), (0, 9)], [(0, 1, 5), (1, 2, 5), (0, 2, 2)])
        self.assertEqual(self.check(cluster, (3, 3, 1), [1, 5, 2]), 3 + 25 + 8)


class PartnerTest(unittest.TestCase):
    def check(self, cluster, leads, one, other):
        """Check the partners of all brokers of two loads, and return how many there are."""
        many = 0
        for broker in range(cluster.size()):
            if one[broker] > other[broker]:
                many += 1
                found = partner(cluster, leads, one, other, broker)
                self.assertLess(one[found], other[found])
                for loads, step in ((list(one), 1), (list(other), -1)):
                    loads[broker] -= step
                    loads[found] += step
                    self.assertIs(is_planned(cluster, leads, loads), True)
        return many

    def test_against_a_search(self):
        chance, many = random.Random(97), 0
        for cluster, leads in WORLDS:
            found = abouts(cluster, leads)
            for _ in range(6):
                many += self.check(cluster, leads, chance.choice(found), chance.choice(found))
        self.assertGreater(many, 500)

    def test_great_counts(self):
        chance, many = random.Random(98), 0
        for cluster, leads in GREAT:
            found = [best(cluster, leads, [chance.randint(0, 3) for _ in range(10)])[1] for _ in range(2)]
            found.append(loads_at(cluster, leads))
            many += sum(self.check(cluster, leads, one, other) for one in found for other in found)
        self.assertGreater(many, 200)

    def test_the_only_one_that_fits(self):
        # 0 can give to 1 alone, 2 to 3 alone.
        cluster = Cluster([(0, 9)] * 4, [(0, 1, 3), (2, 3, 3)])
        self.assertEqual(partner(cluster, (1, 1), [3, 0, 3, 0], [0, 3, 0, 3], 0), 1)
        self.assertEqual(partner(cluster, (1, 1), [3, 0, 3, 0], [0, 3, 0, 3], 2), 3)
        # By several switches: 1 is at its ceiling, or at its floor, and stays there.
        for bounds in ((0, 5), (5, 10)):
            row = ROW.bounded(1, *bounds)
            self.assertEqual(partner(row, (5, 5), [5, 5, 0], [0, 5, 5], 0), 2)
            self.assertEqual(partner(row, (5, 5), [0, 5, 5], [5, 5, 0], 2), 0)


class SameTest(unittest.TestCase):
    def told(self, cluster, leads):
        size = cluster.size()
        have = loads_at(cluster, leads)
        weights = [broker % 3 for broker in range(size)]
        goal = best(cluster, leads, weights)[1]
        partners = [partner(cluster, leads, goal, have, broker) for broker in range(size)
                    if goal[broker] > have[broker]]
        return [comes_about(cluster, leads, goal), greatest_sum(cluster, leads, [0]), least_sum(cluster, leads, [0, 1]),
                sum_bound(cluster, leads, [0], [1], True), best(cluster, leads, weights), partners]

    def test_two_leads_by_turns(self):
        # Broker 1 is rigid, so the leads of its two bundles stay as they are.
        cluster, one, other = Cluster([(0, 9), (5, 5), (0, 9)], [(0, 1, 5), (1, 2, 5), (0, 2, 2)]), (3, 3, 1), (1, 1, 2)
        first, second = self.told(cluster, one), self.told(cluster, other)
        self.assertNotEqual(first, second)
        for leads, expected in ((one, first), (other, second), (one, first), (other, second)):
            self.assertEqual(self.told(cluster, leads), expected)

    def test_changed_clusters(self):
        for cluster, leads in WORLDS[:60] + GREAT[:5]:
            for changed in anew(cluster):
                self.assertEqual(changed, cluster)
                self.assertEqual(self.told(changed, leads), self.told(cluster, leads))

    def test_bounds_that_are_changed_count(self):
        self.assertEqual(greatest_sum(ROW.bounded(1, 0, 9), (5, 5), [1])[0], 9)
        self.assertEqual(greatest_sum(ROW.grown(0, 2, 7), (5, 5, 0), [0])[0], 10)
        self.assertIs(comes_about(ROW.grown(0, 2, 1), (5, 5, 1), [0, 6, 5]), True)
        self.assertEqual(ROW, Cluster([(0, 10), (0, 6), (0, 10)], [(0, 1, 5), (1, 2, 5)]))

    def test_arguments_stay_and_lists_are_new(self):
        arguments = [[0, 6, 4], [0, 1], [1, 2], [3, 1, 2], [5, 5, 0], [0, 5, 5]]
        before = copy.deepcopy(arguments)
        loads, brokers, members, weights, one, other = arguments
        for _ in range(2):
            self.assertIs(comes_about(ROW, (5, 5), loads), True)
            told = [greatest_sum(ROW, (5, 5), brokers), least_sum(ROW, (5, 5), brokers), best(ROW, (5, 5), weights)]
            self.assertEqual([told[0][0], told[1][0], told[2][0]], [10, 5, 25])
            self.assertEqual(sum_bound(ROW, (5, 5), brokers, members, False), 5 - 10)
            self.assertEqual(partner(ROW, (5, 5), one, other, 0), 2)
            for found in (told[0][1], told[1][1], told[2][1], told[2][2], told[2][2][0][1]):
                found.append(7)
        self.assertEqual(arguments, before)
        self.assertEqual(ROW, Cluster([(0, 10), (0, 6), (0, 10)], [(0, 1, 5), (1, 2, 5)]))

    def test_a_ring_at_its_floors(self):
        low = Cluster([(1, 2)] * 3, RING)
        cluster, leads = great_cluster()
        self.assertEqual([greatest_sum(low, (1, 1, 0), [0])[0], least_sum(low, (1, 1, 0), [0])[0]], [1, 1])
        self.assertEqual(greatest_sum(cluster, leads, [0])[0], sum(row[2] for row in cluster.bundles()[:9]))


if __name__ == "__main__":
    unittest.main()
