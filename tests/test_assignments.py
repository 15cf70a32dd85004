"""Leads and their loads [2] [3] [23]."""

import itertools
import unittest

from leadswitch.assignments import are_leads, first_invalid, led, loads
from leadswitch.clusters import Cluster
from values import any_values, no_integers

BOUNDS = [(1, 4), (0, 5), (2, 9), (0, 0)]
BUNDLES = [(0, 1, 3), (1, 2, 4), (0, 2, 2)]


def made():
    return Cluster(BOUNDS, BUNDLES)


def all_leads(cluster):
    return itertools.product(*[range(partitions + 1) for _, _, partitions in cluster.bundles()])


class AreLeadsTest(unittest.TestCase):
    def test_leads_valid_or_not(self):
        for leads in ((0, 0, 0), (3, 4, 2), (1, 2, 1), (3, 0, 2), (0, 4, 0)):
            self.assertIs(are_leads(made(), leads), True)

    def test_one_too_many_or_below_none(self):
        for leads in ((4, 0, 0), (0, 5, 0), (0, 0, 3), (-1, 0, 0), (0, -1, 0), (0, 0, -1),
                      (10 ** 41, 0, 0), (0, 0, -10 ** 41)):
            self.assertIs(are_leads(made(), leads), False)

    def test_one_more_or_less(self):
        for leads in ((), (0,), (0, 0), (0, 0, 0, 0)):
            self.assertIs(are_leads(made(), leads), False)

    def test_parts_that_are_no_integers(self):
        for part in no_integers():
            for leads in ((part, 0, 0), (0, part, 0), (0, 0, part)):
                self.assertIs(are_leads(made(), leads), False)

    def test_a_list_and_other_values(self):
        for thing in [[0, 0, 0], [1, 2, 1], "000", b"000", {0: 0, 1: 0, 2: 0}, range(3), [], {}] + any_values():
            with self.subTest(kind=thing.__class__):
                self.assertIs(are_leads(made(), thing), False)

    def test_a_cluster_without_bundles(self):
        empty = Cluster(BOUNDS, [])
        self.assertIs(are_leads(empty, ()), True)
        for thing in [(0,), [], "", {}] + any_values():
            self.assertIs(are_leads(empty, thing), False)

    def test_the_greatest_numbers(self):
        great = Cluster([(0, 1), (0, 1)], [(0, 1, 10 ** 18)])
        self.assertIs(are_leads(great, (10 ** 18,)), True)
        self.assertIs(are_leads(great, (10 ** 18 + 1,)), False)

    def test_the_arguments_stay_as_they_are(self):
        cluster, leads, thing = made(), (1, 2, 1), [1, 2, 1]
        self.assertIs(are_leads(cluster, leads), are_leads(cluster, leads))
        are_leads(cluster, thing)
        self.assertEqual([cluster, leads, thing], [made(), (1, 2, 1), [1, 2, 1]])


class LedTest(unittest.TestCase):
    def test_both_orders(self):
        leads = (1, 4, 0)
        for one, other, many in ((0, 1, 1), (1, 0, 2), (1, 2, 4), (2, 1, 0), (0, 2, 0), (2, 0, 2)):
            self.assertEqual(led(made(), leads, one, other), many)

    def test_brokers_without_a_bundle(self):
        for broker in range(3):
            self.assertEqual(led(made(), (1, 4, 0), broker, 3), 0)
            self.assertEqual(led(made(), (1, 4, 0), 3, broker), 0)

    def test_the_two_lead_all_partitions(self):
        for leads in all_leads(made()):
            for at, (first, second, partitions) in enumerate(BUNDLES):
                self.assertEqual(led(made(), leads, first, second), leads[at])
                self.assertEqual(led(made(), leads, second, first), partitions - leads[at])

    def test_the_greatest_numbers(self):
        great = Cluster([(0, 1), (0, 1)], [(0, 1, 10 ** 18)])
        self.assertEqual([led(great, (1,), 0, 1), led(great, (1,), 1, 0)], [1, 10 ** 18 - 1])


class LoadsTest(unittest.TestCase):
    def test_loads(self):
        self.assertEqual(loads(made(), (3, 4, 2)), [5, 4, 0, 0])
        self.assertEqual(loads(made(), (0, 0, 0)), [0, 3, 6, 0])
        self.assertEqual(loads(made(), (1, 3, 2)), [3, 5, 1, 0])
        self.assertEqual(loads(Cluster(BOUNDS, []), ()), [0, 0, 0, 0])

    def test_they_are_what_the_brokers_lead(self):
        for leads in all_leads(made()):
            found = loads(made(), leads)
            self.assertEqual(sum(found), 9)
            for one in range(4):
                parts = [led(made(), leads, one, other) for other in range(4) if other != one]
                self.assertEqual(found[one], sum(parts))

    def test_the_greatest_numbers(self):
        rows = [(first, second, 10 ** 18) for first in range(10) for second in range(first + 1, 10)]
        great = Cluster([(0, 10 ** 30)] * 10, rows)
        self.assertEqual(loads(great, (10 ** 18,) * 45), [broker * 10 ** 18 for broker in range(9, -1, -1)])
        self.assertEqual(sum(loads(great, tuple(range(45)))), 45 * 10 ** 18)

    def test_the_list_is_new_and_the_arguments_stay_as_they_are(self):
        cluster, leads = made(), (1, 2, 1)
        found = loads(cluster, leads)
        expected = list(found)
        found[0] = 99
        found.append(1)
        self.assertEqual(loads(cluster, leads), expected)
        self.assertEqual([cluster, leads], [made(), (1, 2, 1)])


class FirstInvalidTest(unittest.TestCase):
    def test_valid_leads(self):
        self.assertIsNone(first_invalid(made(), (1, 2, 1)))
        self.assertIsNone(first_invalid(Cluster([(0, 0), (0, 1)], []), ()))

    def test_at_the_bounds_and_one_beyond(self):
        rows = [(0, 1, 9)]
        for floor, ceiling, found in ((4, 4, None), (5, 6, 0), (0, 3, 0), (4, 9, None), (0, 4, None)):
            self.assertEqual(first_invalid(Cluster([(floor, ceiling), (0, 9)], rows), (4,)), found)
        for floor, ceiling, found in ((5, 5, None), (6, 7, 1), (0, 4, 1), (5, 9, None), (0, 5, None)):
            self.assertEqual(first_invalid(Cluster([(0, 9), (floor, ceiling)], rows), (4,)), found)

    def test_the_least_of_several(self):
        rows = [(0, 1, 1), (1, 2, 1)]
        self.assertEqual(first_invalid(Cluster([(2, 3), (5, 6), (7, 8)], rows), (1, 1)), 0)
        self.assertEqual(first_invalid(Cluster([(1, 3), (5, 6), (7, 8)], rows), (1, 1)), 1)
        self.assertEqual(first_invalid(Cluster([(1, 3), (1, 6), (7, 8)], rows), (1, 1)), 2)
        self.assertEqual(first_invalid(Cluster([(0, 0), (0, 0), (0, 0)], rows), (1, 0)), 0)
        self.assertEqual(first_invalid(Cluster([(0, 1), (0, 0), (0, 0)], rows), (1, 0)), 2)

    def test_a_broker_without_bundles(self):
        self.assertEqual(first_invalid(Cluster([(0, 9), (0, 9), (1, 9)], [(0, 1, 1)]), (1,)), 2)

    def test_against_the_definition(self):
        for leads in all_leads(made()):
            out = [at for at, load in enumerate(loads(made(), leads)) if load < BOUNDS[at][0] or load > BOUNDS[at][1]]
            self.assertEqual(first_invalid(made(), leads), min(out, default=None))

    def test_the_arguments_stay_as_they_are(self):
        cluster, leads = made(), (0, 0, 0)
        self.assertEqual(first_invalid(cluster, leads), first_invalid(cluster, leads))
        self.assertEqual([cluster, leads], [made(), (0, 0, 0)])


if __name__ == "__main__":
    unittest.main()
