"""Frozen bundles: why they are, and what would free them [41] [42] [43]."""

from leadswitch.arcs import arcs
from leadswitch.kinds import MOST_AMOUNT
from leadswitch.obstacles import first_obstacle, greatest_high, greatest_low, is_obstacle


def low_set(cluster, leads):
    """Return the greatest low set, empty if there is none."""
    return greatest_low(cluster, leads, arcs(cluster, leads))


def high_set(cluster, leads):
    """Return the greatest high set, empty if there is none."""
    return greatest_high(cluster, leads, arcs(cluster, leads))


def frozen(cluster, leads):
    """Return the ascending list of the numbers of all frozen bundles."""
    still = low_set(cluster, leads) + high_set(cluster, leads)
    still += [broker for broker in range(cluster.size()) if cluster.is_rigid(broker)]
    return [at for at, row in enumerate(cluster.bundles()) if row[0] in still or row[1] in still]


def bar(cluster, leads, bundle):
    """Return the bar of the first possible kind, with the least broker or the greatest set; None if not frozen."""
    ends = _ends(cluster, bundle)
    return first_obstacle(cluster, leads, arcs(cluster, leads), ends, ends, ends)


def is_bar(cluster, leads, bundle, thing):
    """Return whether thing, any value, is a bar of the bundle."""
    ends = _ends(cluster, bundle)
    return is_obstacle(cluster, leads, arcs(cluster, leads), ends, ends, ends, thing)


def _ends(cluster, bundle):
    first, second, _ = cluster.bundles()[bundle]
    return [first, second]


def freeing(cluster, leads, bundle):
    """Return the list of all single changes of a bound by 1 that free a frozen bundle, in ascending order."""
    if bundle not in frozen(cluster, leads):
        return []
    found = []
    for broker, (floor, ceiling) in enumerate(cluster.bounds()):
        if ceiling < MOST_AMOUNT and bundle not in frozen(cluster.bounded(broker, floor, ceiling + 1), leads):
            found.append(("ceiling", broker))
        if floor > 0 and bundle not in frozen(cluster.bounded(broker, floor - 1, ceiling), leads):
            found.append(("floor", broker))
    return sorted(found)
