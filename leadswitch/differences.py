"""The difference of two leads: what is handed over, and the ways and rings into which this can be split [52]."""

from leadswitch.frozen import frozen
from leadswitch.graphs import ring_pairs, way_pairs


def first_frozen(cluster, leads, goal):
    """Return the least number of a frozen bundle whose leads are different, or None."""
    for bundle in frozen(cluster, leads):
        if leads[bundle] != goal[bundle]:
            return bundle
    return None


def handed(cluster, leads, goal):
    """Return the dict of how many partitions are handed from one to other, for the pairs of changed bundles."""
    found = {}
    for before, after, (first, second, _) in zip(leads, goal, cluster.bundles()):
        if after < before:
            found[(first, second)] = before - after
        if after > before:
            found[(second, first)] = after - before
    return found


def growths(hands):
    """Return the dict of how much the load of each broker grows, or falls, by what is handed over."""
    found = {broker: 0 for pair in hands for broker in pair}
    for (one, other), many in hands.items():
        found[one] -= many
        found[other] += many
    return found


def split(hands):
    """Return the lists of ways and of rings, tuples (brokers, times), that together hand over so many partitions.

    A way leads from a broker whose load falls to one whose load grows. Each of them uses up a pair, or what a broker
    gives, or what it gets: so there are at most 45 + 10.
    """
    left, due = {pair: many for pair, many in hands.items()}, growths(hands)
    ways, rings = [], []
    while left:
        falling = [broker for broker in sorted(due) if due[broker] < 0]
        start = falling[0] if falling else min(list(left))[0]
        walk, is_ring = _walk(left, due, start)
        if is_ring:
            times = _use(left, ring_pairs(walk), [])
            rings.append((walk, times))
        else:
            first, last = walk[0], walk[-1]
            times = _use(left, way_pairs(walk), [-due[first], due[last]])
            due[first] += times
            due[last] -= times
            ways.append((walk, times))
    return ways, rings


def _walk(left, due, start):
    """Return the brokers of a way from start to a broker that gets more, or of a ring, and whether it is a ring."""
    walk = [start]
    while due[walk[-1]] <= 0:
        head = min([other for one, other in left if one == walk[-1]])
        if head in walk:
            return walk[walk.index(head):], True
        walk.append(head)
    return walk, False


def _use(left, pairs, limits):
    """Take as much as possible along the pairs, but no more than the limits, from what is left; return how much."""
    times = min([left[pair] for pair in pairs] + limits)
    for pair in pairs:
        left[pair] -= times
        if left[pair] == 0:
            del left[pair]
    return times
