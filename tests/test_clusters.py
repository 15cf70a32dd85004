"""Clusters [3] [4] [22]."""

import unittest

from leadswitch.clusters import Cluster
from leadswitch.errors import TooMany, Wrong
from values import any_values

BOUNDS = [(1, 2), (1, 7), (4, 4)]
BUNDLES = [(0, 1, 1), (1, 2, 3)]


def made():
    return Cluster(list(BOUNDS), list(BUNDLES))


def state(cluster):
    """Return all that a Cluster tells."""
    brokers = range(cluster.size())
    told = [(cluster.floor(broker), cluster.ceiling(broker), cluster.is_rigid(broker)) for broker in brokers]
    numbers = [cluster.bundle_of(one, other) for one in brokers for other in brokers if one != other]
    return [cluster.size(), len(cluster), cluster.bounds(), cluster.bundles(), told, numbers]


class ConstructorTest(unittest.TestCase):
    def check_wrong(self, place, bounds, bundles):
        with self.assertRaises(Wrong) as caught:
            Cluster(bounds, bundles)
        self.assertEqual(caught.exception.place, place)

    def test_any_value_in_the_place_of_bounds(self):
        for thing in any_values():
            with self.subTest(kind=thing.__class__):
                self.check_wrong(0, thing, BUNDLES)

    def test_any_value_in_the_place_of_bundles(self):
        for thing in any_values():
            with self.subTest(kind=thing.__class__):
                self.check_wrong(1, BOUNDS, thing)

    def test_the_first_wrong_argument_is_told(self):
        for thing in any_values():
            self.check_wrong(0, thing, thing)
            self.check_wrong(0, [], thing)
            self.check_wrong(0, thing, [(1, 0, 1)])

    def test_bounds_that_are_not_as_described(self):
        for bounds in ([], [(0, 1)], [(0, 1)] * 11, [(0, 1), (2, 1)], [(0, 1), [0, 1]], [(0, 1), (0, True)],
                       [(0, 1), (0, 10 ** 30 + 1)], [(0, 1), (-1, 0)], ((0, 1), (0, 1))):
            self.check_wrong(0, bounds, [])

    def test_bundles_that_are_not_as_described(self):
        for bundles in ([(0, 0, 1)], [(1, 0, 1)], [(0, 3, 1)], [(0, 1, 0)], [(0, 1, 10 ** 18 + 1)],
                        [(0, 1, 1), (0, 1, 2)], [[0, 1, 1]], [(0, 1)], ((0, 1, 1),), [(0, 1, True)]):
            self.check_wrong(1, BOUNDS, bundles)

    def test_brokers_of_bundles_are_those_of_the_bounds(self):
        rows = [(8, 9, 1)]
        self.assertEqual(Cluster([(0, 1)] * 10, rows).bundles(), rows)
        self.check_wrong(1, [(0, 1)] * 9, rows)

    def test_the_edges_of_numbers(self):
        bounds, bundles = [(0, 10 ** 30), (10 ** 30, 10 ** 30)], [(0, 1, 10 ** 18)]
        cluster = Cluster(bounds, bundles)
        self.assertEqual([cluster.bounds(), cluster.bundles()], [bounds, bundles])

    def test_the_arguments_stay_as_they_are(self):
        bounds, bundles = list(BOUNDS), list(BUNDLES)
        state(Cluster(bounds, bundles))
        self.assertEqual([bounds, bundles], [BOUNDS, BUNDLES])
        wrong = [(1, 0, 1)]
        self.check_wrong(1, bounds, wrong)
        self.assertEqual([bounds, wrong], [BOUNDS, [(1, 0, 1)]])


class CopiesTest(unittest.TestCase):
    def test_later_changes_of_the_lists_that_it_was_made_of(self):
        bounds, bundles = list(BOUNDS), list(BUNDLES)
        cluster = Cluster(bounds, bundles)
        before = state(cluster)
        bounds[0] = (5, 6)
        bounds.append((0, 0))
        bundles[0] = (0, 2, 9)
        bundles.clear()
        self.assertEqual(state(cluster), before)
        self.assertEqual(cluster, made())

    def test_changes_of_what_it_returned(self):
        cluster = made()
        before = state(cluster)
        cluster.bounds()[0] = (5, 6)
        cluster.bounds().clear()
        cluster.bundles()[0] = (0, 2, 9)
        cluster.bundles().append((0, 2, 1))
        self.assertEqual(state(cluster), before)
        self.assertEqual(cluster, made())

    def test_each_returned_list_is_new(self):
        cluster = made()
        self.assertIsNot(cluster.bounds(), cluster.bounds())
        self.assertIsNot(cluster.bundles(), cluster.bundles())

    def test_the_same_question_has_the_same_answer(self):
        cluster = made()
        self.assertEqual(state(cluster), state(cluster))


class EqualityTest(unittest.TestCase):
    def check_equal(self, one, other, equal):
        self.assertIs(one == other, equal)
        self.assertIs(other == one, equal)
        self.assertIs(one != other, not equal)
        self.assertIs(other != one, not equal)

    def test_equal_clusters(self):
        self.check_equal(made(), made(), True)
        cluster = made()
        self.check_equal(cluster, cluster, True)
        self.check_equal(cluster, Cluster(cluster.bounds(), cluster.bundles()), True)
        self.check_equal(Cluster([(0, 1), (0, 1)], []), Cluster([(0, 1), (0, 1)], []), True)

    def test_other_clusters(self):
        for bounds, bundles in (
            ([(0, 2), (1, 7), (4, 4)], BUNDLES),
            ([(1, 2), (1, 8), (4, 4)], BUNDLES),
            ([(1, 2), (4, 4), (1, 7)], BUNDLES),
            (BOUNDS + [(0, 0)], BUNDLES),
            (BOUNDS, [(0, 1, 1), (1, 2, 4)]),
            (BOUNDS, [(0, 1, 1), (0, 2, 3)]),
            (BOUNDS, [(1, 2, 3), (0, 1, 1)]),
            (BOUNDS, BUNDLES[:1]),
            (BOUNDS, BUNDLES + [(0, 2, 1)]),
            (BOUNDS, []),
        ):
            with self.subTest(bounds=bounds, bundles=bundles):
                self.check_equal(made(), Cluster(bounds, bundles), False)

    def test_other_values(self):
        for thing in any_values() + [BOUNDS, BUNDLES, (BOUNDS, BUNDLES), [], (), len(BUNDLES)]:
            with self.subTest(kind=thing.__class__):
                self.check_equal(made(), thing, False)

    def test_nothing_else_is_equal_even_if_it_says_so(self):
        class Agreeable:
            def __eq__(self, other):
                return True

        self.assertIs(made() == Agreeable(), False)


class QueriesTest(unittest.TestCase):
    def test_what_it_tells(self):
        self.assertEqual(state(made()), [
            3, 2, BOUNDS, BUNDLES, [(1, 2, False), (1, 7, False), (4, 4, True)], [0, None, 0, 1, None, 1],
        ])
        self.assertIs(made().is_rigid(2), True)
        self.assertIs(made().is_rigid(0), False)

    def test_the_smallest_and_the_greatest_cluster(self):
        small = Cluster([(0, 0), (0, 1)], [])
        self.assertEqual([small.size(), len(small), small.bundles(), small.bundle_of(0, 1)], [2, 0, [], None])
        rows = [(first, second, 1) for first in range(10) for second in range(first + 1, 10)]
        great = Cluster([(0, broker) for broker in range(10)], rows)
        self.assertEqual([great.size(), len(great), great.ceiling(9)], [10, 45, 9])
        for at, (first, second, _) in enumerate(rows):
            self.assertEqual([great.bundle_of(first, second), great.bundle_of(second, first)], [at, at])


class BoundedTest(unittest.TestCase):
    def test_a_broker_has_other_bounds(self):
        cluster = made()
        changed = cluster.bounded(1, 0, 10 ** 30)
        self.assertIsInstance(changed, Cluster)
        self.assertEqual(changed, Cluster([(1, 2), (0, 10 ** 30), (4, 4)], BUNDLES))
        self.assertEqual(state(changed), state(Cluster([(1, 2), (0, 10 ** 30), (4, 4)], BUNDLES)))
        self.assertEqual(state(cluster), state(made()))

    def test_the_same_bounds_give_another_equal_cluster(self):
        cluster = made()
        changed = cluster.bounded(0, 1, 2)
        self.assertEqual(changed, cluster)
        self.assertIsNot(changed, cluster)

    def test_rigid_and_not_rigid(self):
        self.assertIs(made().bounded(0, 2, 2).is_rigid(0), True)
        self.assertIs(made().bounded(2, 3, 4).is_rigid(2), False)

    def test_several_changes(self):
        cluster = made().bounded(0, 0, 9).bounded(2, 3, 5).bounded(0, 2, 2)
        self.assertEqual(cluster, Cluster([(2, 2), (1, 7), (3, 5)], BUNDLES))

    def test_somewhat_beyond_the_limit_is_no_error(self):
        cluster = made().bounded(0, 0, 10 ** 30 + 1).bounded(1, 0, 5).grown(0, 2, 1)
        self.assertEqual(cluster.bounds(), [(0, 10 ** 30 + 1), (0, 5), (4, 4)])


class PairsTest(unittest.TestCase):
    def test_numbers_in_either_order(self):
        cluster = made().grown(2, 0, 5)
        found = cluster.pairs()
        self.assertEqual(found, {(0, 1): 0, (1, 0): 0, (1, 2): 1, (2, 1): 1, (0, 2): 2, (2, 0): 2})
        found.clear()
        self.assertEqual([len(cluster.pairs()), cluster.bundle_of(2, 0), made().bundle_of(2, 0)], [6, 2, None])
        self.assertEqual(Cluster(BOUNDS, []).pairs(), {})


class ShrunkTest(unittest.TestCase):
    def test_less_and_nothing(self):
        cluster = made()
        self.assertEqual(cluster.shrunk(2, 1, 2), Cluster(BOUNDS, [(0, 1, 1), (1, 2, 1)]))
        self.assertEqual(state(cluster.shrunk(1, 0, 1)), state(Cluster(BOUNDS, [(1, 2, 3)])))
        self.assertEqual(state(cluster.shrunk(1, 2, 3)), state(Cluster(BOUNDS, [(0, 1, 1)])))
        self.assertEqual(state(cluster), state(made()))


class GrownTest(unittest.TestCase):
    def check_grown(self, one, other, many, bundles):
        cluster = made()
        changed = cluster.grown(one, other, many)
        self.assertIsInstance(changed, Cluster)
        self.assertEqual(state(changed), state(Cluster(BOUNDS, bundles)))
        self.assertEqual(changed, Cluster(BOUNDS, bundles))
        self.assertEqual(state(cluster), state(made()))
        self.assertIsNot(changed, cluster)

    def test_an_old_bundle_in_either_order(self):
        for one, other in ((0, 1), (1, 0)):
            self.check_grown(one, other, 4, [(0, 1, 5), (1, 2, 3)])
        for one, other in ((1, 2), (2, 1)):
            self.check_grown(one, other, 1, [(0, 1, 1), (1, 2, 4)])

    def test_a_new_bundle_in_either_order(self):
        for one, other in ((0, 2), (2, 0)):
            self.check_grown(one, other, 6, BUNDLES + [(0, 2, 6)])

    def test_the_first_bundle(self):
        self.assertEqual(Cluster(BOUNDS, []).grown(2, 1, 1), Cluster(BOUNDS, [(1, 2, 1)]))

    def test_up_to_just_the_limit(self):
        self.check_grown(1, 0, 10 ** 18 - 1, [(0, 1, 10 ** 18), (1, 2, 3)])
        self.check_grown(2, 0, 10 ** 18, BUNDLES + [(0, 2, 10 ** 18)])

    def test_too_many(self):
        for one, other, many in ((0, 1, 10 ** 18), (1, 0, 10 ** 18), (2, 1, 10 ** 18 - 2), (0, 2, 10 ** 18 + 1)):
            cluster = made()
            with self.assertRaises(TooMany) as caught:
                cluster.grown(one, other, many)
            self.assertEqual(caught.exception.limit, 10 ** 18)
            self.assertEqual(state(cluster), state(made()))

    def test_several_changes(self):
        cluster = made().grown(2, 0, 1).bounded(0, 0, 0).grown(0, 2, 1).grown(1, 0, 1)
        self.assertEqual(cluster, Cluster([(0, 0), (1, 7), (4, 4)], [(0, 1, 2), (1, 2, 3), (0, 2, 2)]))


if __name__ == "__main__":
    unittest.main()
