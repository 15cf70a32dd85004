"""The guarantees [5] to [12], each of what the functions together return."""

import random
import unittest

from leadswitch.arcs import reached
from leadswitch.assignments import loads
from leadswitch.errors import Frozen
from leadswitch.extremes import comes_about, greatest_sum, least_sum, partner
from leadswitch.fairest import chain, fairest
from leadswitch.fewest import fewest_plan, fewest_switches, helpers, pieces
from leadswitch.frozen import bar, frozen, is_bar
from leadswitch.listing import all_loads
from leadswitch.nearest import to_ranges, worth
from leadswitch.plans import back, leads_to, length, play
from leadswitch.possible import find_leads, is_impossible
from leadswitch.reach import decide
from leadswitch.switches import legal, switch
from worlds import all_valid, are_valid, distances, moving, sets_of, sleeping_rings, wide_worlds

WORLDS = wide_worlds(170, 60) + [world[:2] for world in sleeping_rings(171, 15, 1, 5, (1, 2))]


def some_goals(seed, many):
    """Return tuples (cluster, leads, goal) of valid leads."""
    chance = random.Random(seed)
    return [(cluster, leads, goal) for cluster, leads in WORLDS
            for goal in chance.sample(all_valid(cluster), min(many, len(all_valid(cluster))))]


class GuaranteesTest(unittest.TestCase):
    def test_5_taking_back(self):
        for cluster, leads in WORLDS:
            for one, other in legal(cluster, leads):
                after = switch(cluster, leads, one, other)
                self.assertIn((other, one), legal(cluster, after))
                self.assertEqual(switch(cluster, after, other, one), leads)
        for cluster, leads, goal in some_goals(172, 5):
            found = decide(cluster, leads, goal)
            if found[0] == "plan":
                self.assertIs(leads_to(cluster, leads, goal, found[1]), True)
                self.assertIs(leads_to(cluster, goal, leads, back(found[1])), True)
                self.assertEqual(length(back(found[1])), length(found[1]))
                self.assertEqual(fewest_switches(cluster, leads, goal), fewest_switches(cluster, goal, leads))

    def test_6_frozen(self):
        for cluster, leads in WORLDS:
            still = frozen(cluster, leads)
            self.assertEqual(still, [at for at in range(len(leads)) if at not in moving(cluster, leads)])
            for at in range(len(leads)):
                found = bar(cluster, leads, at)
                self.assertIs(found is not None, at in still)
                self.assertIs(is_bar(cluster, leads, at, found), at in still)
            for after in list(distances(cluster, leads))[:10]:
                self.assertEqual(frozen(cluster, after), still)
                self.assertEqual([after[at] for at in still], [leads[at] for at in still])

    def test_7_reachable(self):
        for cluster, leads, goal in some_goals(173, 12):
            is_same = all(leads[at] == goal[at] for at in frozen(cluster, leads))
            self.assertIs(goal in distances(cluster, leads), is_same)
            self.assertEqual(decide(cluster, leads, goal)[0], "plan" if is_same else "frozen")

    def test_8_exactly_so_many(self):
        counts = {}
        for cluster, leads, goal in some_goals(174, 12):
            many = sum(abs(before - after) for before, after in zip(leads, goal))
            try:
                words = [word for _, word in pieces(cluster, leads, goal)]
            except Frozen:
                continue
            steps = distances(cluster, leads)[goal]
            counts[len(words) == words.count("free")] = True
            if all(word == "free" for word in words):
                self.assertEqual([steps, length(fewest_plan(cluster, leads, goal))], [many, many])
            else:
                self.assertGreater(steps, many)
        self.assertEqual(len(counts), 2)

    def test_9_fewest(self):
        chance = random.Random(175)
        for cluster, leads, goal in some_goals(176, 6):
            have = loads(cluster, goal)
            near = distances(cluster, leads)
            if goal in near:
                many = sum(abs(before - after) for before, after in zip(leads, goal))
                self.assertEqual(near[goal], many + 2 * len(helpers(cluster, leads, goal)))
            ranges = [chance.choice(((load, load), bound)) for load, bound in zip(have, cluster.bounds())]
            found = to_ranges(cluster, leads, ranges)
            steps = [many for after, many in near.items()
                     if all(least <= load <= most for load, (least, most) in zip(loads(cluster, after), ranges))]
            if found[0] == "plan":
                self.assertEqual([length(found[1]), worth(cluster, leads, ranges, found[2])], [min(steps)] * 2)
            else:
                self.assertEqual(steps, [])

    def test_10_loads(self):
        chance = random.Random(177)
        for cluster, leads in WORLDS:
            found = all_loads(cluster, leads, limit=1000)
            for brokers in sets_of(cluster.size()):
                least, greatest = least_sum(cluster, leads, brokers)[0], greatest_sum(cluster, leads, brokers)[0]
                self.assertEqual({sum(each[broker] for broker in brokers) for each in found},
                                 set(range(least, greatest + 1)))
            one, other = chance.choice(found), chance.choice(found)
            for broker in range(cluster.size()):
                if one[broker] > other[broker]:
                    taker = partner(cluster, leads, one, other, broker)
                    self.assertLess(one[taker], other[taker])
                    for have, sign in ((list(one), 1), (list(other), -1)):
                        have[broker] -= sign
                        have[taker] += sign
                        self.assertIn(have, found)
                        self.assertIs(comes_about(cluster, leads, have), True)

    def test_11_fairest(self):
        for cluster, leads in WORLDS:
            least = min(sum(load * load for load in have) for have in all_loads(cluster, leads, limit=1000))
            for after in list(distances(cluster, leads))[:12] + [fairest(cluster, leads)]:
                have = loads(cluster, after)
                are_none = not any(
                    have[one] - have[other] >= 2 and have[one] > cluster.floor(one)
                    and have[other] < cluster.ceiling(other) and other in reached(cluster, after, [one])
                    for one in range(cluster.size()) for other in range(cluster.size())
                )
                self.assertIs(sum(load * load for load in have) == least, are_none)
                self.assertIs(chain(cluster, after) is None, are_none)

    def test_12_possible(self):
        chance, words = random.Random(178), set()
        for cluster, leads in WORLDS:
            for broker in range(cluster.size()):
                load = loads(cluster, leads)[broker]
                floor = max(0, load + chance.randint(-2, 2))
                changed = cluster.bounded(broker, floor, floor + chance.randint(0, 1))
                found = find_leads(changed)
                words.add(found[0])
                shown = any(is_impossible(changed, (word, members))
                            for members in sets_of(cluster.size()) for word in ("over", "under"))
                self.assertIs(found[0] == "leads", not shown)
                self.assertIs(found[0] == "leads", all_valid(changed) != [])
                if found[0] == "leads":
                    self.assertTrue(are_valid(changed, found[1]))
                    self.assertEqual(play(changed, found[1], []), found[1])
                else:
                    self.assertIs(is_impossible(changed, found), True)
        self.assertEqual(words, {"leads", "over", "under"})


if __name__ == "__main__":
    unittest.main()
