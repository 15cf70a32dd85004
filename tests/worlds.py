"""Small clusters, and what follows from the definitions [2] alone, by trying everything."""

import itertools
import random

from leadswitch.clusters import Cluster

RING = [(0, 1, 1), (1, 2, 1), (0, 2, 1)]


def some_cluster(chance, size, most):
    """Return a Cluster of this size with bundles of at most so many partitions, and valid leads of it."""
    pairs = [pair for pair in itertools.combinations(range(size), 2) if chance.random() < 0.7]
    chance.shuffle(pairs)
    bundles = [(one, other, chance.randint(1, most)) for one, other in pairs]
    leads = tuple(chance.randint(0, partitions) for _, _, partitions in bundles)
    # Most brokers are at their floors, or most at their ceilings, or neither: so bundles are frozen for all reasons.
    below, above = chance.choice((((0, 0, 0, 0, 1), (0, 1, 1, 1, 2)), ((0, 1, 1, 1, 2), (0, 0, 0, 0, 1)),
                                  ((0, 0, 1, 2), (0, 0, 1, 2))))
    bounds = []
    for load in loads_of(size, bundles, leads):
        bounds.append((max(0, load - chance.choice(below)), load + chance.choice(above)))
    return Cluster(bounds, bundles), leads


def some_worlds(seed, many, sizes=(2, 3, 4), most=2):
    """Return a list of so many tuples (cluster, leads)."""
    chance = random.Random(seed)
    return [some_cluster(chance, chance.choice(sizes), chance.randint(1, most)) for _ in range(many)]


def loads_of(size, bundles, leads):
    found = [0] * size
    for number, (first, second, partitions) in zip(leads, bundles):
        found[first] += number
        found[second] += partitions - number
    return found


def are_valid(cluster, leads):
    have = loads_of(cluster.size(), cluster.bundles(), leads)
    return all(floor <= load <= ceiling for load, (floor, ceiling) in zip(have, cluster.bounds()))


def all_valid(cluster):
    """Return the list of all valid leads."""
    ranges = [range(partitions + 1) for _, _, partitions in cluster.bundles()]
    return [leads for leads in itertools.product(*ranges) if are_valid(cluster, leads)]


def next_leads(cluster, leads):
    """Return a dict of the leads after each legal switch (one, other)."""
    found = {}
    for at, (first, second, partitions) in enumerate(cluster.bundles()):
        for pair, number in (((first, second), leads[at] - 1), ((second, first), leads[at] + 1)):
            after = leads[:at] + (number,) + leads[at + 1:]
            if 0 <= number <= partitions and are_valid(cluster, after):
                found[pair] = after
    return found


def distances(cluster, leads):
    """Return a dict of the fewest switches to all leads to which plans lead."""
    found = {leads: 0}
    queue = [leads]
    for here in queue:
        for after in next_leads(cluster, here).values():
            if after not in found:
                found[after] = found[here] + 1
                queue.append(after)
    return found


def played(cluster, leads, plan):
    """Return the leads after a plan, or the tuple (block, turn, run) of its first switch that is not legal."""
    for block, (turns, runs) in enumerate(plan):
        for turn in range(turns):
            for run, (one, other, times) in enumerate(runs):
                for _ in range(times):
                    after = next_leads(cluster, leads)
                    if (one, other) not in after:
                        return ("stopped", block, turn, run)
                    leads = after[(one, other)]
    return leads


def moving(cluster, leads):
    """Return the set of the numbers of the bundles of which some plan switches a partition."""
    found = set()
    for after in distances(cluster, leads):
        found.update(at for at in range(len(leads)) if after[at] != leads[at])
    return found


def great_ring(floor, ceiling):
    """Return a Cluster of three brokers with 10 ** 18 partitions in each bundle, and leads with equal loads."""
    many = 10 ** 18
    return Cluster([(floor, ceiling)] * 3, [(one, other, many) for one, other, _ in RING]), (many // 2,) * 3


def great_cluster():
    """Return a Cluster of ten brokers with 45 bundles of 10 ** 18 partitions, and leads with different loads."""
    rows = [(one, other, 10 ** 18 - one) for one, other in itertools.combinations(range(10), 2)]
    return Cluster([(0, 10 ** 30)] * 10, rows), tuple(at * 10 ** 16 for at in range(45))
