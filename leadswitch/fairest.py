"""The fairest loads that come about [80] [81]."""

from leadswitch.arcs import first_way
from leadswitch.pools import FreePool


def chain(cluster, leads):
    """Return a way from a giver to a taker whose load is less by 2 or more, by as much as possible, or None."""
    pair = _widest_pair(cluster, leads)
    if pair is None:
        return None
    return first_way(cluster, leads, pair[0], pair[1])


def is_fairest(cluster, leads):
    """Return whether the loads of the leads are fairest."""
    return _widest_pair(cluster, leads) is None


def _widest_pair(cluster, leads):
    """Return the first of the pairs of a giver and a taker that it reaches with the greatest difference, or None.

    A difference of less than 2 does not count.
    """
    pool = FreePool(cluster, leads)
    have, found, widest = pool.loads(), None, 1
    gives = [broker for broker in pool.free() if have[broker] > cluster.floor(broker)]
    takes = [broker for broker in pool.free() if have[broker] < cluster.ceiling(broker)]
    for giver in gives:
        ends = [taker for taker in takes if have[giver] - have[taker] > widest]
        reached = pool.reached([giver]) if ends else {}
        for taker in ends:
            if taker in reached and have[giver] - have[taker] > widest:
                found, widest = (giver, taker), have[giver] - have[taker]
    return found


def fairest(cluster, leads):
    """Return leads to which a plan leads and whose loads are fairest."""
    return _fairest_pool(cluster, leads).leads()


def _fairest_pool(cluster, leads):
    """Return the pool with the fairest loads.

    A part of the brokers is brought as near as possible to the loads that were fairest if each of them could hand to
    each other one. If some have too much in the end, they and those whom they reach can hand nothing to the rest of
    the part, and in the fairest loads they hold together as little as they can: so both go on without each other.
    """
    pool = FreePool(cluster, leads)
    parts = [pool.free()]
    while parts:
        part = parts.pop()
        total = sum([pool.load(broker) for broker in part])
        inside = pool.approach(_evened(cluster, part, total), part)
        if inside:
            parts.append([broker for broker in part if broker in inside])
            parts.append([broker for broker in part if broker not in inside])
    return pool


def _evened(cluster, part, total):
    """Return a dict of loads of some brokers that have this sum, as even as possible."""
    edges = [(cluster.floor(broker), 1) for broker in part] + [(cluster.ceiling(broker), -1) for broker in part]
    # All loads rise together: each one from its floor on, and up to its ceiling.
    level, rising, left = 0, 0, total - sum([cluster.floor(broker) for broker in part])
    for edge, change in sorted(edges):
        if (edge - level) * rising > left:
            break
        left -= (edge - level) * rising
        level, rising = edge, rising + change
    if rising > 0:
        more, left = divmod(left, rising)
        level += more
    found = {}
    for broker in part:
        found[broker] = min(max(level, cluster.floor(broker)), cluster.ceiling(broker))
        if left > 0 and cluster.floor(broker) <= level < cluster.ceiling(broker):
            found[broker] += 1
            left -= 1
    return found


def least_peak(cluster, leads):
    """Return the least number such that loads come about which are at most number, and a paper that shows it."""
    pool = _fairest_pool(cluster, leads)
    have = pool.loads()
    number = max(have)
    for broker, (floor, _) in enumerate(cluster.bounds()):
        if floor == number:
            return number, ("broker", broker)
    # All whom a peak reaches have number or number - 1, or are at their ceilings.
    inside = pool.reached([broker for broker, load in enumerate(have) if load == number])
    return number, ("never", sorted(inside))


def greatest_dip(cluster, leads):
    """Return the greatest number such that loads come about which are at least number, and a paper that shows it."""
    pool = _fairest_pool(cluster, leads)
    have = pool.loads()
    number = min(have)
    for broker, (_, ceiling) in enumerate(cluster.bounds()):
        if ceiling == number:
            return number, ("broker", broker)
    # Those whom no giver with more than number + 1 reaches have at most number + 1, or are at their floors.
    inside = pool.reached([broker for broker, load in enumerate(have)
                           if load > max(cluster.floor(broker), number + 1)])
    return number, ("never", [broker for broker in pool.free() if broker not in inside])
