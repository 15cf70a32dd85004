"""Loads that come about, one after another, as lists are ordered [73]."""

from leadswitch.errors import TooMany
from leadswitch.pools import FreePool


def next_loads(cluster, leads, loads):
    """Return the least loads that come about and are not less than the given ones, or None."""
    pool, branch = FreePool(cluster, leads), None
    for broker, load in enumerate(loads):
        pool.move(broker, load + 1)
        if pool.load(broker) > load:
            branch = (broker, pool.copied())
        pool.move(broker, load)
        if pool.load(broker) != load:
            return _least_of(branch)
    return pool.loads()


def _least_of(branch):
    """Return the least loads for a tuple (broker, pool), those up to the broker being as they are; None for None."""
    if branch is None:
        return None
    broker, pool = branch
    pool.settle(broker + 1)
    return pool.loads()


def all_loads(cluster, leads, *, limit=400):
    """Return the list of all loads that come about, in ascending order."""
    pool, found = FreePool(cluster, leads), []
    pool.settle(0)
    while len(found) < limit:
        found.append(pool.loads())
        if not pool.advance():
            return found
    raise TooMany(limit)
