"""The kinds of values [2] [21]."""

import copy
import unittest

from leadswitch.kinds import are_bounds, are_bundles, is_amount, is_count, is_integer, is_set
from values import any_values, integers, no_integers

PAIRS = [(first, second) for first in range(10) for second in range(first + 1, 10)]


class KindsTest(unittest.TestCase):
    def yes(self, found):
        self.assertIs(found, True)

    def no(self, found):
        self.assertIs(found, False)


class IntegersTest(KindsTest):
    def test_integers(self):
        for thing in integers():
            self.yes(is_integer(thing))

    def test_truths_and_other_values_are_no_integers(self):
        for thing in no_integers():
            for function in (is_integer, is_amount, is_count):
                with self.subTest(kind=thing.__class__, function=function.__name__):
                    self.no(function(thing))

    def test_amounts(self):
        for thing in (0, 1, 2, 10 ** 18, 10 ** 18 + 1, 10 ** 30 - 1, 10 ** 30):
            self.yes(is_amount(thing))
        for thing in (-1, -10 ** 30, 10 ** 30 + 1, 10 ** 40, 10 ** 41, -10 ** 41, 10 ** 5000):
            self.no(is_amount(thing))

    def test_counts(self):
        for thing in (1, 2, 10 ** 18 - 1, 10 ** 18):
            self.yes(is_count(thing))
        for thing in (0, -1, -10 ** 18, 10 ** 18 + 1, 10 ** 30, 10 ** 41, -10 ** 41, 10 ** 5000):
            self.no(is_count(thing))


class SetsTest(KindsTest):
    def test_sets(self):
        for thing in ([], [0], [2], [0, 1], [0, 2], [1, 2], [0, 1, 2]):
            self.yes(is_set(thing, 3))
        self.yes(is_set(list(range(10)), 10))
        self.yes(is_set([0, 1], 2))

    def test_a_broker_twice_or_in_another_order(self):
        for thing in ([0, 0], [1, 1], [0, 1, 1], [0, 0, 1], [0, 1, 0], [2, 0], [1, 0], [0, 2, 1], [2, 1, 0]):
            self.no(is_set(thing, 3))

    def test_a_broker_out_of_range(self):
        for thing in ([3], [0, 3], [-1], [-1, 0], [0, 1, 2, 3], [-1, -2], [10 ** 41], [-10 ** 41]):
            self.no(is_set(thing, 3))
        self.no(is_set([2], 2))
        self.no(is_set([10], 10))
        self.no(is_set(list(range(11)), 10))

    def test_items_that_are_no_integers(self):
        for item in no_integers():
            for thing in ([item], [0, item], [item, 2]):
                self.no(is_set(thing, 3))

    def test_a_tuple_and_other_values_in_the_place_of_a_list(self):
        for thing in [(), (0, 1), "", {}, {0: 1}, set(), {0}, range(2), b""] + any_values():
            with self.subTest(kind=thing.__class__):
                self.no(is_set(thing, 3))

    def test_the_thing_stays_as_it_is(self):
        for thing in ([0, 2], [2, 0], [1, 1], []):
            before = list(thing)
            self.assertIs(is_set(thing, 3), is_set(thing, 3))
            self.assertEqual(thing, before)


class BoundsTest(KindsTest):
    def test_two_to_ten_brokers(self):
        for size in range(13):
            self.assertIs(are_bounds([(0, 1)] * size), 2 <= size <= 10)

    def test_floors_and_ceilings(self):
        for row in ((0, 0), (0, 1), (5, 5), (0, 10 ** 30), (10 ** 30, 10 ** 30), (10 ** 18, 10 ** 18 + 1)):
            self.yes(are_bounds([(0, 1), row]))
            self.yes(are_bounds([row, (0, 1)]))
        for row in ((1, 0), (10 ** 30, 0), (-1, 0), (-1, -1), (0, 10 ** 30 + 1), (10 ** 30 + 1, 10 ** 30 + 1),
                    (0, 10 ** 41), (-10 ** 41, 0)):
            self.no(are_bounds([(0, 1), row]))
            self.no(are_bounds([row, (0, 1)]))

    def test_parts_that_are_no_amounts(self):
        for part in no_integers():
            for row in ((part, 1), (0, part), (part, part)):
                self.no(are_bounds([(0, 1), row]))

    def test_a_part_more_or_less_or_a_list(self):
        for row in ((), (0,), (0, 1, 2), [0, 1], [], "01", b"01", {0: 1, 1: 2}):
            self.no(are_bounds([(0, 1), row]))
            self.no(are_bounds([row, (0, 1)]))

    def test_other_values_as_rows(self):
        for row in integers() + [None, True, "", {}, set()]:
            self.no(are_bounds([(0, 1), row]))

    def test_other_values(self):
        for thing in [((0, 1), (0, 1)), [], (), {(0, 1): 1, (0, 2): 1}] + any_values():
            with self.subTest(kind=thing.__class__):
                self.no(are_bounds(thing))

    def test_the_thing_stays_as_it_is(self):
        for thing in ([(0, 1), (2, 3)], [(1, 0), (2, 3)], [[0, 1], [2, 3]]):
            before = copy.deepcopy(thing)
            self.assertIs(are_bounds(thing), are_bounds(thing))
            self.assertEqual(thing, before)


class BundlesTest(KindsTest):
    def test_bundles(self):
        for thing in ([], [(0, 1, 1)], [(0, 2, 5), (0, 1, 5)], [(1, 2, 1), (0, 2, 1), (0, 1, 1)]):
            self.yes(are_bundles(thing, 3))

    def test_counts(self):
        for many in (1, 2, 10 ** 18 - 1, 10 ** 18):
            self.yes(are_bundles([(0, 1, many)], 2))
        for many in [0, -1, 10 ** 18 + 1, 10 ** 30, 10 ** 41, -10 ** 41] + no_integers():
            self.no(are_bundles([(0, 1, many)], 2))

    def test_equal_brokers_and_the_wrong_way_round(self):
        for row in ((0, 0, 1), (1, 1, 1), (1, 0, 1), (2, 1, 1), (2, 0, 1)):
            self.no(are_bundles([row], 3))
            self.no(are_bundles([(0, 1, 1), row], 3))

    def test_brokers_out_of_range(self):
        for row in ((-1, 0, 1), (0, 3, 1), (2, 3, 1), (3, 4, 1), (-2, -1, 1), (0, 10 ** 41, 1), (-10 ** 41, 0, 1)):
            self.no(are_bundles([row], 3))
        self.no(are_bundles([(0, 2, 1)], 2))
        self.yes(are_bundles([(8, 9, 1)], 10))
        self.no(are_bundles([(8, 10, 1)], 10))

    def test_brokers_that_are_no_integers(self):
        for broker in no_integers():
            self.no(are_bundles([(0, broker, 1)], 3))
            self.no(are_bundles([(broker, 2, 1)], 3))

    def test_the_same_brokers_twice(self):
        self.no(are_bundles([(0, 1, 1), (0, 1, 1)], 3))
        self.no(are_bundles([(0, 1, 1), (0, 1, 2)], 3))
        self.no(are_bundles([(0, 1, 1), (0, 2, 1), (1, 2, 1), (0, 1, 4)], 3))
        self.no(are_bundles([(0, 1, 3), (1, 0, 2)], 2))

    def test_45_rows_and_46(self):
        rows = [(first, second, 1) for first, second in PAIRS]
        self.assertEqual(len(rows), 45)
        self.yes(are_bundles(rows, 10))
        self.yes(are_bundles(rows[::-1], 10))
        self.no(are_bundles(rows + [(0, 1, 1)], 10))
        self.no(are_bundles(rows + [(0, 10, 1)], 10))
        self.no(are_bundles(rows, 9))

    def test_a_part_more_or_less_or_a_list(self):
        for row in ((), (0,), (0, 1), (0, 1, 1, 1), [0, 1, 1], "011", b"011", {0: 1, 1: 2, 2: 3}):
            self.no(are_bundles([row], 3))
            self.no(are_bundles([(0, 2, 1), row], 3))

    def test_other_values_as_rows(self):
        for row in integers() + [None, True, "", {}, set()]:
            self.no(are_bundles([row], 3))

    def test_other_values(self):
        for thing in [(), ((0, 1, 1),), {}, {(0, 1, 1): 1}, "", set()] + any_values():
            with self.subTest(kind=thing.__class__):
                self.no(are_bundles(thing, 3))

    def test_the_thing_stays_as_it_is(self):
        for thing in ([(0, 1, 1), (0, 2, 1)], [(0, 1, 1), (0, 1, 2)], [[0, 1, 1]]):
            before = copy.deepcopy(thing)
            self.assertIs(are_bundles(thing, 3), are_bundles(thing, 3))
            self.assertEqual(thing, before)


if __name__ == "__main__":
    unittest.main()
