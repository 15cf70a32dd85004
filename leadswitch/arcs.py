"""Givers, takers, arcs, and the ways along arcs [40]."""

from leadswitch.assignments import loads
from leadswitch.graphs import first_shortest, steps_from, turned


def givers(cluster, leads):
    """Return the set of the brokers that are not rigid and whose load is greater than the floor."""
    have = loads(cluster, leads)
    return [broker for broker in _free(cluster) if have[broker] > cluster.floor(broker)]


def takers(cluster, leads):
    """Return the set of the brokers that are not rigid and whose load is less than the ceiling."""
    have = loads(cluster, leads)
    return [broker for broker in _free(cluster) if have[broker] < cluster.ceiling(broker)]


def _free(cluster):
    return [broker for broker in range(cluster.size()) if not cluster.is_rigid(broker)]


def arcs(cluster, leads):
    """Return the list of all arcs in ascending order."""
    found = []
    for number, (first, second, partitions) in zip(leads, cluster.bundles()):
        if cluster.is_rigid(first) or cluster.is_rigid(second):
            continue
        if number > 0:
            found.append((first, second))
        if number < partitions:
            found.append((second, first))
    return sorted(found)


def reached(cluster, leads, brokers):
    """Return the set of all brokers to which ways lead from some of the brokers, a set."""
    return _ends(cluster, arcs(cluster, leads), brokers)


def reaching(cluster, leads, brokers):
    """Return the set of all brokers from which ways lead to some of the brokers, a set."""
    return _ends(cluster, turned(arcs(cluster, leads)), brokers)


def _ends(cluster, pairs, brokers):
    return sorted(steps_from(pairs, [broker for broker in brokers if not cluster.is_rigid(broker)]))


def first_way(cluster, leads, one, other):
    """Return the first of the ways with the fewest steps from one to other, perhaps the same broker, or None."""
    # No arc leads to or from a rigid broker, but each broker leads to itself.
    if cluster.is_rigid(one):
        return None
    return first_shortest(arcs(cluster, leads), one, other)
