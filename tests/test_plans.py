"""Plans [2] [3] [5] [31] [32] [33]."""

import copy
import random
import unittest

from leadswitch.clusters import Cluster
from leadswitch.errors import Stopped
from leadswitch.plans import back, is_plan, leads_to, length, most_turns, play
from values import any_values, no_integers
from worlds import RING, great_cluster, great_ring, next_leads, played, some_worlds

ROW = [(0, 1, 5), (1, 2, 5)]


def row():
    return Cluster([(0, 10), (5, 6), (0, 10)], ROW)


def some_runs(chance, cluster, most):
    pairs = [pair for one, other, _ in cluster.bundles() for pair in ((one, other), (other, one))]
    return [chance.choice(pairs) + (chance.choice((1, 1, 1, 2)),) for _ in range(chance.randint(1, most))]


def some_plans(seed, many):
    """Return tuples (cluster, leads, plan) with plans that may stop, and often not at once."""
    chance = random.Random(seed)
    found = []
    for cluster, leads in some_worlds(seed, many, most=4):
        if len(cluster):
            plan = [(chance.randint(1, 3), some_runs(chance, cluster, 3)) for _ in range(chance.randint(0, 4))]
            found.append((cluster, leads, plan))
            here, runs = leads, []
            for _ in range(chance.randint(1, 6)):
                after = next_leads(cluster, here)
                if after:
                    pair = chance.choice(sorted(after))
                    here = after[pair]
                    runs.append(pair + (1,))
            if runs:
                found.append((cluster, leads, [(chance.randint(1, 4), runs)] + plan))
    return found


PLANS = some_plans(31, 400)


class IsPlanTest(unittest.TestCase):
    def check(self, expected, things):
        for thing in things:
            with self.subTest(thing=str(thing)[:80]):
                self.assertIs(is_plan(row(), thing), expected)

    def test_plans(self):
        self.check(True, (
            [], [(1, [(0, 1, 1)])], [(1, [(1, 0, 1)]), (10 ** 18, [(2, 1, 10 ** 18), (1, 2, 1)])],
            [(1, [(0, 1, 9)] * 1000)], [(1, [(0, 1, 1)])] * 400, [(2, [(0, 1, 1)] * 10)] * 400,
            [(1, [(0, 1, 1)] * 1000)] * 4,
        ))

    def test_one_too_many(self):
        self.check(False, (
            [(1, [(0, 1, 1)])] * 401, [(1, [(0, 1, 1)] * 1001)],
            [(1, [(0, 1, 1)] * 10)] * 399 + [(1, [(0, 1, 1)] * 11)],
            [(1, [(0, 1, 1)] * 1000)] * 4 + [(1, [(0, 1, 1)])],
        ))

    def test_numbers_beyond_counts(self):
        for number in (0, -1, 10 ** 18 + 1, 10 ** 41, -10 ** 41):
            self.check(False, ([(number, [(0, 1, 1)])], [(1, [(0, 1, number)])]))

    def test_brokers(self):
        self.check(False, ([(1, [(0, 2, 1)])], [(1, [(2, 0, 1)])], [(1, [(0, 0, 1)])], [(1, [(2, 3, 1)])],
                           [(1, [(-1, 0, 1)])], [(1, [(0, -1, 1)])], [(1, [(0, 10 ** 41, 1)])],
                           [(1, [(0, 1, 1), (1, 2, 1), (0, 2, 1)])]))
        self.assertIs(is_plan(Cluster([(0, 3)] * 3, RING), [(1, [(0, 2, 1)])]), True)
        self.assertIs(is_plan(Cluster([(0, 3)] * 4, RING), [(1, [(0, 3, 1)])]), False)

    def test_other_forms(self):
        self.check(False, ((), ((1, [(0, 1, 1)]),), [[1, [(0, 1, 1)]]], [(1, ((0, 1, 1),))], [(1, [[0, 1, 1]])],
                           [(1, [])], [(1,)], [(1, [(0, 1, 1)], 1)], [(1, [(0, 1)])], [(1, [(0, 1, 1, 1)])],
                           [(1, [(0, 1, 1)]), (1, [])], [(1, [(0, 1, 1)]), None], [()], [(1, [()])],
                           {0: (1, [(0, 1, 1)])}, "1 0>1*1"))

    def test_any_values(self):
        for thing in any_values():
            self.assertIs(is_plan(row(), thing), thing == [] and isinstance(thing, list))
        for thing in no_integers():
            self.check(False, ([thing], [(thing, [(0, 1, 1)])], [(1, thing)], [(1, [thing])], [(1, [(thing, 1, 1)])],
                               [(1, [(0, thing, 1)])], [(1, [(0, 1, thing)])]))
            self.assertIs(leads_to(row(), (5, 5), (5, 5), [(1, [thing])]), False)

    def test_a_cluster_without_bundles(self):
        empty = Cluster([(0, 1)] * 2, [])
        self.assertIs(is_plan(empty, []), True)
        self.assertIs(is_plan(empty, [(1, [(0, 1, 1)])]), False)

    def test_arguments_stay_as_they_are(self):
        thing = [(1, [(0, 1, 1)]), (1, [(0, 2, 1)])]
        cluster, before = row(), copy.deepcopy(thing)
        for _ in range(2):
            self.assertIs(is_plan(cluster, thing), False)
        self.assertEqual([thing, cluster], [before, row()])


class LengthTest(unittest.TestCase):
    def test_length(self):
        self.assertEqual(length([]), 0)
        self.assertEqual(length([(3, [(0, 1, 2), (1, 2, 5)]), (2, [(2, 1, 1)])]), 23)
        self.assertEqual(length([(10 ** 18, [(0, 1, 10 ** 18)] * 1000)] * 4), 4000 * 10 ** 36)
        self.assertEqual(length([(1, [(0, 1, 1)])] * 400), 400)


class PlayTest(unittest.TestCase):
    def check_stopped(self, cluster, leads, plan, fields):
        with self.assertRaises(Stopped) as caught:
            play(cluster, leads, plan)
        error = caught.exception
        self.assertEqual((error.block, error.turn, error.run), fields)

    def test_against_the_definition(self):
        stopped = 0
        for cluster, leads, plan in PLANS:
            expected = played(cluster, leads, plan)
            with self.subTest(bounds=cluster.bounds(), bundles=cluster.bundles(), leads=leads, plan=plan):
                if expected[:1] == ("stopped",):
                    stopped += 1
                    self.check_stopped(cluster, leads, plan, expected[1:])
                else:
                    self.assertEqual(play(cluster, leads, plan), expected)
        self.assertTrue(50 < stopped < len(PLANS) - 50)

    def test_the_empty_plan(self):
        self.assertEqual(play(row(), (5, 5), []), (5, 5))
        self.assertEqual(play(Cluster([(0, 1)] * 2, []), (), []), ())

    def test_each_condition_stops_alone(self):
        for bounds, turn in (([(0, 9), (0, 9)], 3), ([(2, 9), (0, 9)], 2), ([(0, 9), (0, 5)], 1)):
            self.check_stopped(Cluster(bounds, [(0, 1, 9)]), (6,), [(9, [(0, 1, 2)])], (0, turn, 0))
        for bounds, turn in (([(0, 9), (0, 9)], 1), ([(0, 9), (2, 9)], 0), ([(0, 7), (0, 9)], 0)):
            self.check_stopped(Cluster(bounds, [(0, 1, 9)]), (6,), [(9, [(1, 0, 2)])], (0, turn, 0))

    def test_a_bound_stops_while_there_are_partitions(self):
        for bounds, pair, turn in (([(2, 9), (0, 9)], (0, 1), 4), ([(0, 9), (0, 5)], (0, 1), 2),
                                   ([(0, 8), (0, 9)], (1, 0), 2), ([(0, 9), (1, 9)], (1, 0), 2)):
            cluster = Cluster(bounds, [(0, 1, 9)])
            for turns in (turn + 1, 10 ** 18):
                self.check_stopped(cluster, (6,), [(turns, [pair + (1,)])], (0, turn, 0))
            self.check_stopped(cluster, (6,), [(turn, [pair + (1,)]), (1, [pair + (1,)])], (1, 0, 0))
            back = (pair[1], pair[0], turn)
            self.assertEqual(play(cluster, (6,), [(turn, [pair + (1,)]), (1, [back])]), (6,))

    def test_the_first_run_of_the_first_turn(self):
        cluster = Cluster([(0, 9), (0, 9), (0, 9)], [(0, 1, 4), (1, 2, 4)])
        self.check_stopped(cluster, (4, 4), [(2, [(0, 1, 1), (1, 2, 2)]), (5, [(1, 2, 1), (0, 1, 2)])], (1, 0, 0))
        self.check_stopped(cluster, (4, 4), [(5, [(1, 2, 1), (0, 1, 2)])], (0, 2, 1))
        self.check_stopped(cluster, (4, 4), [(5, [(0, 1, 2), (1, 2, 2)])], (0, 2, 0))

    def test_a_run_that_stops_within_its_times(self):
        self.check_stopped(row(), (5, 5), [(1, [(1, 2, 1), (0, 1, 1)])], (0, 0, 0))
        self.check_stopped(row(), (5, 5), [(1, [(0, 1, 1), (1, 2, 2)])], (0, 0, 1))

    def test_the_greatest_turns_and_times(self):
        many = 10 ** 18
        cluster = Cluster([(0, 10 ** 30)] * 2, [(0, 1, many)])
        self.assertEqual(play(cluster, (many,), [(many, [(0, 1, 1)])]), (0,))
        self.assertEqual(play(cluster, (many,), [(1, [(0, 1, many)])]), (0,))
        self.assertEqual(play(cluster, (many,), [(many, [(0, 1, many), (1, 0, many)])]), (many,))
        self.assertEqual(play(cluster, (many,), [(many - 1, [(0, 1, 2), (1, 0, 1)])]), (1,))
        self.check_stopped(cluster, (many,), [(many, [(0, 1, 2), (1, 0, 1)])], (0, many - 1, 0))
        self.check_stopped(cluster, (many,), [(many, [(0, 1, many), (1, 0, many - 1)])], (0, 1, 0))
        self.check_stopped(cluster, (many - 1,), [(many, [(0, 1, 1)])], (0, many - 1, 0))
        self.check_stopped(cluster, (many,), [(many, [(0, 1, 3)])], (0, many // 3, 0))
        self.check_stopped(cluster, (many,), [(many, [(0, 1, 1)]), (many, [(1, 0, 2)])], (1, many // 2, 0))
        self.check_stopped(cluster, (many,), [(many, [(0, 1, many)])], (0, 1, 0))

    def test_the_most_blocks_and_runs(self):
        ring, leads = great_ring(0, 10 ** 30)
        runs = [pair + (times,) for times in (1, 2, 3) for pair in ((0, 1), (1, 2), (2, 0))] + [(0, 1, 1)]
        plan = [(1000, runs)] * 400
        self.assertEqual(play(ring, leads, plan),
                         (leads[0] - 7 * 400000, leads[1] - 6 * 400000, leads[2] + 6 * 400000))
        self.check_stopped(ring, (0,) + leads[1:], plan, (0, 0, 0))
        last = [(10 ** 18, [(0, 1, 1)] * 1000)]
        self.check_stopped(ring, leads, plan[:300] + last, (300, (5 * 10 ** 17 - 7 * 300000) // 1000, 0))

    def test_many_blocks_and_runs_of_ten_brokers(self):
        cluster, _ = great_cluster()
        leads = tuple(row[2] // 2 for row in cluster.bundles())
        there, back = (0, 1, 1), (1, 0, 1)
        after = (leads[0] - 400,) + leads[1:]
        for plan, goal in (([(1, [there, back] * 5)] * 400, leads), ([(1, [there])] * 400, after),
                           ([(10 ** 18, [there, back] * 500)] * 4, leads)):
            self.assertIs(is_plan(cluster, plan), True)
            self.assertEqual(play(cluster, leads, plan), goal)
            self.assertIs(leads_to(cluster, leads, goal, plan), True)
            self.assertIs(leads_to(cluster, leads, goal[:-1] + (goal[-1] + 1,), plan), False)
            # The last block is the first one with a switch that is not legal.
            stopped = plan[:-1] + [(10 ** 18, plan[-1][1] + [(0, 2, 10 ** 18)])]
            self.check_stopped(cluster, leads, stopped, (len(plan) - 1, 0, len(plan[-1][1])))
            self.assertIs(leads_to(cluster, leads, goal, stopped), False)

    def test_turns_between_the_first_and_the_last_one(self):
        # The first turn is legal, and the block stops at the same turn however many turns it has.
        cluster = Cluster([(0, 99), (0, 99), (0, 99)], [(0, 1, 40), (1, 2, 40), (0, 2, 40)])
        leads = (30, 20, 20)
        for runs, turn, run in (([(0, 1, 1)], 30, 0), ([(0, 1, 3), (1, 2, 1)], 10, 0), ([(1, 2, 1), (0, 1, 1)], 20, 0),
                                ([(2, 0, 5), (0, 2, 5), (2, 1, 3)], 6, 2), ([(0, 2, 7), (2, 0, 3), (1, 2, 4)], 4, 0),
                                ([(0, 2, 20), (2, 0, 19), (1, 2, 1)], 1, 0), ([(1, 0, 9), (0, 1, 10), (1, 2, 2)], 10, 2)):
            self.assertEqual(played(cluster, leads, [(99, runs)]), ("stopped", 0, turn, run))
            for turns in (turn + 1, turn + 2, 3 * turn + 5, 10 ** 18):
                self.check_stopped(cluster, leads, [(turns, runs)], (0, turn, run))
            self.assertEqual(play(cluster, leads, [(turn, runs)]), played(cluster, leads, [(turn, runs)]))

    def test_guarantee_frozen_also_holds_for_what_is_played(self):
        cluster = Cluster([(1, 2)] * 3, RING)
        for pair in ((0, 1), (1, 2), (2, 0), (1, 0), (2, 1), (0, 2)):
            self.check_stopped(cluster, (1, 1, 0), [(1, [pair + (1,)])], (0, 0, 0))

    def test_nothing_changes(self):
        plan = [(3, [(0, 1, 1), (1, 2, 1)]), (9, [(1, 2, 1)])]
        before, first, second = copy.deepcopy(plan), row(), Cluster([(0, 10)] * 3, ROW)
        for _ in range(2):
            self.check_stopped(first, (5, 5), plan, (1, 0, 0))
            self.check_stopped(second, (5, 5), plan, (1, 2, 0))
        self.assertEqual([plan, first, second], [before, row(), Cluster([(0, 10)] * 3, ROW)])


class BackTest(unittest.TestCase):
    def test_back(self):
        self.assertEqual(back([]), [])
        plan = [(3, [(0, 1, 1), (1, 2, 4)]), (7, [(2, 1, 5), (0, 1, 2), (0, 2, 3)])]
        self.assertEqual(back(plan), [(7, [(2, 0, 3), (1, 0, 2), (1, 2, 5)]), (3, [(2, 1, 4), (1, 0, 1)])])

    def test_it_takes_back(self):
        many = 0
        for cluster, leads, plan in PLANS:
            after = played(cluster, leads, plan)
            self.assertEqual(back(back(plan)), plan)
            self.assertEqual(length(back(plan)), length(plan))
            if after[:1] != ("stopped",):
                many += 1
                self.assertEqual(play(cluster, after, back(plan)), leads)
        self.assertGreater(many, 50)

    def test_it_is_a_new_list(self):
        plan = [(3, [(0, 1, 1)])]
        found = back(plan)
        found[0][1].append(1)
        found.append(1)
        self.assertEqual([plan, back(plan)], [[(3, [(0, 1, 1)])], [(3, [(1, 0, 1)])]])


class MostTurnsTest(unittest.TestCase):
    def test_against_play(self):
        found = {}
        for cluster, leads, plan in PLANS:
            for _, runs in plan:
                many = most_turns(cluster, leads, runs)
                found[many] = found.get(many, 0) + 1
                if many is None:
                    self.assertEqual(play(cluster, leads, [(10 ** 18, runs)]), leads)
                    self.assertEqual(played(cluster, leads, [(1, runs)]), leads)
                else:
                    self.assertEqual(played(cluster, leads, [(many + 1, runs)])[:3], ("stopped", 0, many))
        self.assertTrue(all(found.get(many, 0) > 5 for many in (None, 0, 1)), found)

    def test_none_and_0(self):
        self.assertIsNone(most_turns(row(), (5, 5), [(0, 1, 1), (1, 0, 1)]))
        self.assertEqual(most_turns(row(), (5, 5), [(1, 0, 1), (0, 1, 1)]), 0)
        self.assertEqual(most_turns(row(), (5, 5), [(0, 1, 1), (1, 2, 1)] * 500), 0)
        self.assertIsNone(most_turns(row(), (5, 5), [(0, 1, 1), (1, 0, 1)] * 500))

    def test_the_greatest_counts(self):
        many = 10 ** 18
        ring, leads = great_ring(10 ** 18, 2 * 10 ** 18)
        self.assertEqual(most_turns(ring, leads, [(0, 1, 1), (1, 2, 1), (2, 0, 1)]), 0)
        ring, leads = great_ring(10 ** 18 - 1, 2 * 10 ** 18)
        self.assertEqual(most_turns(ring, leads, [(0, 1, 1), (1, 2, 1), (2, 0, 1)]), many // 2)
        self.assertEqual(most_turns(ring, leads, [(0, 1, 2), (1, 2, 1), (2, 0, 1)]), 0)
        pair = Cluster([(0, many)] * 2, [(0, 1, many)])
        self.assertEqual(most_turns(pair, (many,), [(0, 1, many)]), 1)
        self.assertEqual(most_turns(pair, (many,), [(0, 1, 1)]), many)
        self.assertEqual(most_turns(pair, (many,), [(0, 1, many), (1, 0, many - 1)]), 1)

    def test_nothing_changes(self):
        runs, cluster = [(0, 1, 1), (1, 2, 1)], row()
        for _ in range(2):
            self.assertEqual(most_turns(cluster, (5, 5), runs), 5)
            self.assertEqual(most_turns(Cluster([(3, 9)] * 3, ROW), (5, 5), runs), 2)
        self.assertEqual([runs, cluster], [[(0, 1, 1), (1, 2, 1)], row()])


class LeadsToTest(unittest.TestCase):
    def test_against_the_definition(self):
        for cluster, leads, plan in PLANS:
            expected = played(cluster, leads, plan)
            if expected[:1] == ("stopped",):
                self.assertIs(leads_to(cluster, leads, leads, plan), False)
            else:
                self.assertIs(leads_to(cluster, leads, expected, plan), True)
                self.assertIs(leads_to(cluster, leads, leads, plan), expected == leads)

    def test_no_plans(self):
        for thing in any_values():
            self.assertIs(leads_to(row(), (5, 5), (5, 5), thing), thing == [] and isinstance(thing, list))
        for thing in ([(1, [])], [(0, [(0, 1, 1)])], [(1, [(0, 2, 1)])], ((1, [(0, 1, 1)]),),
                      [(1, [(0, 1, 1), (1, 0, 1)])] * 401):
            self.assertIs(leads_to(row(), (5, 5), (5, 5), thing), False)
        self.assertIs(leads_to(row(), (5, 5), (5, 5), [(1, [(0, 1, 1), (1, 0, 1)])] * 400), True)

    def test_the_empty_plan(self):
        self.assertIs(leads_to(row(), (5, 5), (5, 5), []), True)
        self.assertIs(leads_to(row(), (5, 5), (4, 5), []), False)

    def test_the_greatest_counts(self):
        cluster, leads = great_cluster()
        goal = (leads[0] + 10 ** 18 - 10 ** 16,) + leads[1:]
        block = (10 ** 17, [(1, 0, 9), (1, 0, 1)])
        self.assertIs(leads_to(cluster, leads, goal, [block, (10 ** 16, [(0, 1, 1)])]), True)
        self.assertIs(leads_to(cluster, leads, goal, [block]), False)
        self.assertIs(leads_to(cluster, leads, goal, [(10 ** 17, [(1, 0, 9), (1, 0, 2)])]), False)


if __name__ == "__main__":
    unittest.main()
