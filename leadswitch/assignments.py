"""Leads of a cluster, which may be invalid here, and the loads that they give [23]."""

from leadswitch.kinds import is_integer


def are_leads(cluster, thing):
    """Return whether thing, any value, is leads of the cluster, valid or not."""
    if not isinstance(thing, tuple) or len(thing) != len(cluster):
        return False
    for number, row in zip(thing, cluster.bundles()):
        if not is_integer(number) or not 0 <= number <= row[2]:
            return False
    return True


def led(cluster, leads, one, other):
    """Return how many partitions of the bundle of two different brokers are led by one."""
    at = cluster.bundle_of(one, other)
    if at is None:
        return 0
    first, _, partitions = cluster.bundles()[at]
    if one == first:
        return leads[at]
    return partitions - leads[at]


def loads(cluster, leads):
    """Return the list of the loads of all brokers."""
    found = [0] * cluster.size()
    for number, (first, second, partitions) in zip(leads, cluster.bundles()):
        found[first] += number
        found[second] += partitions - number
    return found


def first_invalid(cluster, leads):
    """Return the least broker whose load is not from its floor to its ceiling, or None."""
    for broker, load in enumerate(loads(cluster, leads)):
        if not cluster.floor(broker) <= load <= cluster.ceiling(broker):
            return broker
    return None
