"""Small clusters, and what follows from the definitions [2] alone, by trying everything."""

import itertools
import random

from leadswitch.clusters import Cluster

RING = [(0, 1, 1), (1, 2, 1), (0, 2, 1)]


def some_cluster(chance, size, most):
    """Return a Cluster of this size with bundles of at most so many partitions, and valid leads of it."""
    pairs = [pair for pair in itertools.combinations(range(size), 2) if chance.random() < 0.7]
    chance.shuffle(pairs)
    bundles = [(one, other, chance.randint(1, most)) for one, other in pairs]
    leads = tuple(chance.randint(0, partitions) for _, _, partitions in bundles)
    # Most brokers are at their floors, or most at their ceilings, or neither: so bundles are frozen for all reasons.
    below, above = chance.choice((((0, 0, 0, 0, 1), (0, 1, 1, 1, 2)), ((0, 1, 1, 1, 2), (0, 0, 0, 0, 1)),
                                  ((0, 0, 1, 2), (0, 0, 1, 2))))
    bounds = []
    for load in loads_of(size, bundles, leads):
        bounds.append((max(0, load - chance.choice(below)), load + chance.choice(above)))
    return Cluster(bounds, bundles), leads


def some_worlds(seed, many, sizes=(2, 3, 4), most=2):
    """Return a list of so many tuples (cluster, leads)."""
    chance = random.Random(seed)
    return [some_cluster(chance, chance.choice(sizes), chance.randint(1, most)) for _ in range(many)]


def loads_of(size, bundles, leads):
    found = [0] * size
    for number, (first, second, partitions) in zip(leads, bundles):
        found[first] += number
        found[second] += partitions - number
    return found


def are_valid(cluster, leads):
    have = loads_of(cluster.size(), cluster.bundles(), leads)
    return all(floor <= load <= ceiling for load, (floor, ceiling) in zip(have, cluster.bounds()))


def all_valid(cluster):
    """Return the list of all valid leads."""
    ranges = [range(partitions + 1) for _, _, partitions in cluster.bundles()]
    return [leads for leads in itertools.product(*ranges) if are_valid(cluster, leads)]


def next_leads(cluster, leads):
    """Return a dict of the leads after each legal switch (one, other)."""
    found = {}
    for at, (first, second, partitions) in enumerate(cluster.bundles()):
        for pair, number in (((first, second), leads[at] - 1), ((second, first), leads[at] + 1)):
            after = leads[:at] + (number,) + leads[at + 1:]
            if 0 <= number <= partitions and are_valid(cluster, after):
                found[pair] = after
    return found


def distances(cluster, leads):
    """Return a dict of the fewest switches to all leads to which plans lead."""
    found = {leads: 0}
    queue = [leads]
    for here in queue:
        for after in next_leads(cluster, here).values():
            if after not in found:
                found[after] = found[here] + 1
                queue.append(after)
    return found


def abouts(cluster, leads):
    """Return the ascending list of all loads that come about."""
    found = {tuple(loads_of(cluster.size(), cluster.bundles(), after)) for after in distances(cluster, leads)}
    return [list(have) for have in sorted(found)]


def sets_of(size):
    """Return the list of all sets of brokers, the empty one included."""
    return [list(members) for many in range(size + 1) for members in itertools.combinations(range(size), many)]


def wide_worlds(seed, many):
    """Return a list of tuples (cluster, leads) of all kinds of bounds, narrow ones and wide ones."""
    chance = random.Random(seed)
    worlds = some_worlds(seed, many, most=3) + some_worlds(seed, many // 4, sizes=(5,), most=1)
    worlds += [world[:2] for world in sleeping_rings(seed, many // 8, 1, 5, (1, 2))]
    found = []
    for cluster, leads in worlds:
        bounds = [(max(0, floor - chance.randint(0, 3)), ceiling + chance.randint(0, 3)) if floor < ceiling
                  else (floor, ceiling) for floor, ceiling in cluster.bounds()]
        found += [(cluster, leads), (Cluster(bounds, cluster.bundles()), leads)]
    return found


def great_worlds(seed, many):
    """Return a list of tuples (cluster, leads) of ten brokers with great counts, some brokers being rigid."""
    chance = random.Random(seed)
    found = [great_cluster()]
    for cluster, leads, _ in great_goals(seed, many):
        rows = list(zip(cluster.bounds(), loads_of(10, cluster.bundles(), leads)))
        bounds = [(load, load) if chance.random() < 0.1 else bound for bound, load in rows]
        found.append((Cluster(bounds, cluster.bundles()), leads))
    return found


def anew(cluster):
    """Return the tuple of Clusters that bounded and grown return and that are equal to a cluster."""
    rows = cluster.bundles()
    found = [cluster.bounded(0, 0, 10 ** 30).bounded(0, *cluster.bounds()[0])]
    if rows and rows[-1][2] > 1:
        one, other, many = rows[-1]
        less = Cluster(cluster.bounds(), rows[:-1] + [(one, other, 1)])
        found.append(less.grown(other, one, many - 1))
    if rows:
        found.append(Cluster(cluster.bounds(), rows[:-1]).grown(*rows[-1]))
    return tuple(found)


def played(cluster, leads, plan):
    """Return the leads after a plan, or the tuple (block, turn, run) of its first switch that is not legal."""
    for block, (turns, runs) in enumerate(plan):
        for turn in range(turns):
            for run, (one, other, times) in enumerate(runs):
                for _ in range(times):
                    after = next_leads(cluster, leads)
                    if (one, other) not in after:
                        return ("stopped", block, turn, run)
                    leads = after[(one, other)]
    return leads


def moving(cluster, leads):
    """Return the set of the numbers of the bundles of which some plan switches a partition."""
    found = set()
    for after in distances(cluster, leads):
        found.update(at for at in range(len(leads)) if after[at] != leads[at])
    return found


def great_ring(floor, ceiling):
    """Return a Cluster of three brokers with 10 ** 18 partitions in each bundle, and leads with equal loads."""
    many = 10 ** 18
    return Cluster([(floor, ceiling)] * 3, [(one, other, many) for one, other, _ in RING]), (many // 2,) * 3


def great_cluster():
    """Return a Cluster of ten brokers with 45 bundles of 10 ** 18 partitions, and leads with different loads."""
    rows = [(one, other, 10 ** 18 - one) for one, other in itertools.combinations(range(10), 2)]
    return Cluster([(0, 10 ** 30)] * 10, rows), tuple(at * 10 ** 16 for at in range(45))


def great_goals(seed, many):
    """Return a list of tuples (cluster, leads, goal): ten brokers, up to 45 great bundles, all kinds of bounds."""
    chance = random.Random(seed)
    found = []
    for _ in range(many):
        rows = [(one, other, chance.choice((1, 2, 10 ** 18, chance.randint(1, 10 ** 18))))
                for one, other in itertools.combinations(range(10), 2) if chance.random() < chance.choice((0.5, 1, 1))]
        leads, goal = [tuple(chance.choice((0, row[2], chance.randint(0, row[2]))) for row in rows) for _ in range(2)]
        if chance.random() < 0.5:
            goal = turned_around(chance, rows, leads)
        tight = chance.choice((0, 0, 10 ** 30))
        pairs = zip(loads_of(10, rows, leads), loads_of(10, rows, goal))
        bounds = [(max(0, min(pair) - tight), min(10 ** 30, max(pair) + 1 + tight)) for pair in pairs]
        found.append((Cluster(bounds, rows), leads, goal))
    return found


def turned_around(chance, rows, leads):
    """Return leads with the same loads: many rings are turned, as far as they can be or less."""
    numbers = {(one, other): at for at, (one, other, _) in enumerate(rows)}
    after = list(leads)
    for _ in range(60):
        ring = chance.sample(range(10), chance.randint(3, 10))
        pairs = list(zip(ring, ring[1:] + ring[:1]))
        rooms = []
        for one, other in pairs:
            at = numbers.get((min(one, other), max(one, other)))
            rooms.append(0 if at is None else after[at] if one < other else rows[at][2] - after[at])
        if min(rooms) > 0:
            times = chance.choice((1, min(rooms), chance.randint(1, min(rooms))))
            for one, other in pairs:
                after[numbers[(min(one, other), max(one, other))]] += -times if one < other else times
    return tuple(after)


def sleeping_rings(seed, many, rings, size, amounts):
    """Return a list of tuples (cluster, leads, goal) with rings of three at their floors or at their ceilings.

    The goal turns all rings. The other brokers, and bundles between all of them that stay as they are, may help.
    """
    chance = random.Random(seed)
    found = []
    for _ in range(many):
        brokers = chance.sample(range(size), size)
        words = {broker: chance.choice(("low", "high", "free", "low")) for broker in brokers}
        rows = {}
        for at in range(rings):
            ring, amount = brokers[3 * at:3 * at + 3], chance.choice(amounts)
            word = chance.choice(("low", "low", "high"))
            for one, other in zip(ring, ring[1:] + ring[:1]):
                words[one] = word
                partitions = min(10 ** 18, amount + chance.choice((0, 0, 1)))
                put(rows, one, other, partitions, chance.randint(amount, partitions), amount)
        for one, other in itertools.combinations(range(size), 2):
            if (one, other) not in rows and chance.random() < chance.choice((0.1, 0.3, 0.5)):
                put(rows, one, other, 1, chance.randint(0, 1), 0)
        order = chance.sample(sorted(rows), len(rows))
        bundles = [pair + rows[pair][:1] for pair in order]
        leads, goal = tuple(rows[pair][1] for pair in order), tuple(rows[pair][2] for pair in order)
        bounds = []
        for broker, load in enumerate(loads_of(size, bundles, leads)):
            room = chance.choice((1, 1, 2))
            below, above = {"low": (0, room), "high": (min(load, room), load == 0), "free": (1, 1)}[words[broker]]
            bounds.append((max(0, load - below), load + int(above)))
        found.append((Cluster(bounds, bundles), leads, goal))
    return found


def put(rows, one, other, partitions, many, amount):
    """Keep a bundle of which one leads so many partitions, and hands over an amount of them."""
    if one < other:
        rows[(one, other)] = (partitions, many, many - amount)
    else:
        rows[(other, one)] = (partitions, partitions - many, partitions - many + amount)
