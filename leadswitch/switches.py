"""Single switches of partitions at valid leads [30]."""

from leadswitch.assignments import led, loads
from leadswitch.errors import NoBundle, NotLegal


def is_legal(cluster, leads, one, other):
    """Return whether the switch (one, other) of two different brokers is legal."""
    if led(cluster, leads, one, other) == 0:
        return False
    have = loads(cluster, leads)
    return have[one] > cluster.floor(one) and have[other] < cluster.ceiling(other)


def switch(cluster, leads, one, other):
    """Return the leads after the switch (one, other) of two different brokers."""
    at = cluster.bundle_of(one, other)
    if at is None:
        raise NoBundle(one, other)
    if not is_legal(cluster, leads, one, other):
        raise NotLegal()
    after = list(leads)
    if one < other:
        after[at] -= 1
    else:
        after[at] += 1
    return tuple(after)


def legal(cluster, leads):
    """Return the list of all legal switches, tuples (one, other), in ascending order."""
    found = []
    for first, second, _ in cluster.bundles():
        for one, other in ((first, second), (second, first)):
            if is_legal(cluster, leads, one, other):
                found.append((one, other))
    return sorted(found)
