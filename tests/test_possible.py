"""Whether a cluster has valid leads [3] [4] [12] [90]."""

import copy
import random
import unittest

from leadswitch.clusters import Cluster
from leadswitch.possible import find_leads, is_impossible
from values import any_values, no_integers
from worlds import RING, all_valid, anew, are_valid, great_cluster, great_goals, loads_of, sets_of, wide_worlds

MANY, MOST = 10 ** 18, 10 ** 30


def some_clusters(seed, many):
    """Return Clusters of which about half have valid leads."""
    chance = random.Random(seed)
    found = []
    for cluster, leads in wide_worlds(seed, many):
        bounds = []
        for load in loads_of(cluster.size(), cluster.bundles(), leads):
            floor = max(0, load + chance.randint(-3, 1))
            bounds.append((floor, max(floor, load + chance.randint(-1, 2))))
        found.append(Cluster(bounds, cluster.bundles()))
    return found


CLUSTERS = some_clusters(120, 150)


def inside(cluster, members):
    return sum(many for one, other, many in cluster.bundles() if one in members and other in members)


def touched(cluster, members):
    return sum(many for one, other, many in cluster.bundles() if one in members or other in members)


def is_shown(cluster, word, members):
    """Return whether a set shows that there are no valid leads, by the words of [90]."""
    if word == "over":
        return inside(cluster, members) > sum(cluster.ceiling(broker) for broker in members)
    return word == "under" and sum(cluster.floor(broker) for broker in members) > touched(cluster, members)


class FindLeadsTest(unittest.TestCase):
    def check(self, cluster):
        """Check what is found, and return its word."""
        found = find_leads(cluster)
        self.assertEqual((found.__class__, len(found)), (tuple, 2))
        word, what = found
        if word == "leads":
            self.assertIsInstance(what, tuple)
            self.assertEqual(len(what), len(cluster))
            self.assertTrue(all(0 <= number <= row[2] for number, row in zip(what, cluster.bundles())))
            self.assertTrue(are_valid(cluster, what))
        else:
            self.assertIn(word, ("over", "under"))
            self.assertTrue(what)
            self.assertEqual(what, sorted(set(what)))
            self.assertTrue(is_shown(cluster, word, what))
            self.assertIs(is_impossible(cluster, found), True)
        return word

    def test_against_a_search(self):
        words = []
        for cluster in CLUSTERS:
            word = self.check(cluster)
            words.append(word)
            self.assertIs(word == "leads", all_valid(cluster) != [])
        self.assertTrue(all(words.count(word) > 25 for word in ("leads", "over", "under")), words)

    def test_without_bundles(self):
        for bounds, found in (([(0, 0), (0, 0)], ("leads", ())), ([(0, 5), (0, MOST)], ("leads", ())),
                              ([(0, 1), (1, 1), (0, 0)], ("under", [1]))):
            cluster = Cluster(bounds, [])
            self.check(cluster)
            self.assertEqual(find_leads(cluster)[0], found[0])
            if found[0] == "leads":
                self.assertEqual(find_leads(cluster), found)
        self.assertEqual(self.check(Cluster([(1, 1), (MOST, MOST)], [])), "under")

    def test_equal_bounds(self):
        for loads, word in (([1, 1, 1], "leads"), ([0, 1, 2], "leads"), ([0, 0, 3], "over"), ([0, 0, 2], "over"),
                            ([2, 2, 0], None), ([1, 1, 2], "under"), ([3, 0, 0], None), ([2, 1, 0], "leads")):
            found = self.check(Cluster([(load, load) for load in loads], RING))
            self.assertIs(found == "leads", word == "leads")
        self.assertEqual(find_leads(Cluster([(3, 3), (4, 4)], [(0, 1, 7)])), ("leads", (3,)))

    def test_the_greatest_numbers(self):
        pair = [(0, 1, MANY)]
        for bounds, word in (([(0, MOST), (0, MOST)], "leads"), ([(MANY, MOST), (0, 0)], "leads"),
                             ([(MANY + 1, MOST), (0, MOST)], "under"), ([(0, MANY - 1), (0, 0)], "over"),
                             ([(MANY // 2, MANY // 2)] * 2, "leads"), ([(MOST, MOST), (0, MOST)], "under"),
                             ([(0, 1), (0, MANY - 2)], "over"), ([(1, MOST), (MANY, MOST)], "under")):
            self.assertEqual(self.check(Cluster(bounds, pair)), word)

    def test_great_clusters(self):
        chance, words = random.Random(121), []
        for cluster, _, goal in great_goals(122, 60):
            rows, wide = cluster.bundles(), chance.choice((0, 1, MANY))
            self.assertEqual(self.check(cluster), "leads")
            loads = loads_of(10, rows, goal)
            exact = [(load, load) for load in loads]
            self.assertEqual(self.check(Cluster(exact, rows)), "leads")
            for change in (-1, 1):
                for broker in range(10):
                    if loads[broker] + change >= 0:
                        bounds = list(exact)
                        bounds[broker] = (loads[broker] + change,) * 2
                        self.assertEqual(self.check(Cluster(bounds, rows)), "over" if change < 0 else "under")
            middles = [max(0, load + chance.choice((-MANY, 0, MANY))) for load in loads]
            words.append(self.check(Cluster([(max(0, load - wide), load + wide) for load in middles], rows)))
        cluster, _ = great_cluster()
        self.assertEqual(self.check(cluster), "leads")
        self.assertTrue({"over", "under"} & set(words))

    def test_rigid_brokers_may_be_members(self):
        self.assertEqual(find_leads(Cluster([(1, 1), (1, 1)], [(0, 1, 3)])), ("over", [0, 1]))
        self.assertEqual(find_leads(Cluster([(2, 2), (2, 2)], [(0, 1, 3)])), ("under", [0, 1]))
        self.assertEqual(find_leads(Cluster([(0, 9), (0, 0), (0, 0)], [(0, 1, 3), (1, 2, 1)])), ("over", [1, 2]))


class IsImpossibleTest(unittest.TestCase):
    def test_against_the_definition(self):
        for cluster in CLUSTERS:
            some = False
            for members in sets_of(cluster.size()):
                for word in ("over", "under"):
                    some = some or is_shown(cluster, word, members)
                    self.assertIs(is_impossible(cluster, (word, members)), is_shown(cluster, word, members))
            # Guarantee [12].
            self.assertIs(some, find_leads(cluster)[0] != "leads")

    def test_great_clusters(self):
        chance = random.Random(123)
        for cluster, leads, _ in great_goals(124, 20):
            bounds = [(load, load) for load in loads_of(10, cluster.bundles(), leads)]
            change = chance.choice((-1, 1))
            for members in chance.sample(sets_of(10)[1:], 40):
                changed = list(bounds)
                changed[members[0]] = (max(0, bounds[members[0]][0] + change),) * 2
                other = Cluster(changed, cluster.bundles())
                for word in ("over", "under"):
                    self.assertIs(is_impossible(other, (word, members)), is_shown(other, word, members))

    def test_the_empty_set(self):
        for cluster in CLUSTERS[:30]:
            self.assertIs(is_impossible(cluster, ("over", [])), False)
            self.assertIs(is_impossible(cluster, ("under", [])), False)

    def test_any_values(self):
        over, under = Cluster([(0, 1), (0, 1)], [(0, 1, 3)]), Cluster([(2, 5), (2, 5)], [(0, 1, 3)])
        self.assertIs(is_impossible(over, ("over", [0, 1])), True)
        self.assertIs(is_impossible(under, ("under", [0, 1])), True)
        for cluster in (over, under):
            for thing in any_values():
                self.assertIs(is_impossible(cluster, thing), False)
                self.assertIs(is_impossible(cluster, ("over", thing)), False)
                self.assertIs(is_impossible(cluster, ("under", thing)), False)
                self.assertIs(is_impossible(cluster, (thing, [0, 1])), False)
                self.assertIs(is_impossible(cluster, (thing,)), False)
            for thing in no_integers():
                for word in ("over", "under"):
                    self.assertIs(is_impossible(cluster, (word, [thing, 1])), False)
                    self.assertIs(is_impossible(cluster, (word, [0, thing])), False)
        for thing in (["over", [0, 1]], ("over", (0, 1)), ("over", [1, 0]), ("over", [0, 1, 1]), ("over", [0, 2]),
                      ("over", [0, 1], 0), ("over",), ("Over", [0, 1]), ("under", [0, 1]), ("leads", (1,)),
                      ("over", [0, True]), ("over", [False, 1]), ("over", [-1, 0, 1]), ("over", [0, 1, 10 ** 41]),
                      ("", [0, 1]), (b"over", [0, 1]), ("over", {0: 1, 1: 1}), ("over", "01"), [0, 1], "over"):
            self.assertIs(is_impossible(over, thing), False)


class SameTest(unittest.TestCase):
    def test_changed_clusters(self):
        for cluster in CLUSTERS[:80]:
            for changed in anew(cluster):
                self.assertEqual(find_leads(changed), find_leads(cluster))
                for members in sets_of(cluster.size()):
                    for word in ("over", "under"):
                        self.assertIs(is_impossible(changed, (word, members)), is_impossible(cluster, (word, members)))
        over = Cluster([(0, 1), (0, 1)], [(0, 1, 2)])
        self.assertEqual([find_leads(over)[0], find_leads(over.grown(0, 1, 1)), find_leads(over.bounded(0, 0, 0))],
                         ["leads", ("over", [0, 1]), ("over", [0, 1])])
        self.assertEqual(over, Cluster([(0, 1), (0, 1)], [(0, 1, 2)]))

    def test_arguments_stay_and_lists_are_new(self):
        cluster, thing = Cluster([(0, 1), (0, 1)], [(0, 1, 3)]), ("over", [0, 1])
        before = copy.deepcopy(thing)
        for _ in range(2):
            found = find_leads(cluster)
            self.assertEqual(found, thing)
            found[1].append(5)
            self.assertIs(is_impossible(cluster, thing), True)
        self.assertEqual([thing, cluster], [before, Cluster([(0, 1), (0, 1)], [(0, 1, 3)])])


if __name__ == "__main__":
    unittest.main()
