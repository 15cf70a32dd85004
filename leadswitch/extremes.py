"""The loads that come about, and their greatest and least sums [70] [71] [72]."""

from leadswitch.differences import handed
from leadswitch.graphs import steps_from
from leadswitch.pools import FreePool


def comes_about(cluster, leads, loads):
    """Return whether a plan leads to leads with these loads."""
    if not all([floor <= load <= ceiling for load, (floor, ceiling) in zip(loads, cluster.bounds())]):
        return False
    pool = FreePool(cluster, leads)
    pool.approach(loads, list(range(cluster.size())))
    return pool.loads() == loads


def greatest_sum(cluster, leads, brokers):
    """Return the greatest sum of the loads of a set in loads that come about, and a set that shows it."""
    pool = FreePool(cluster, leads)
    members = pool.gather(brokers)
    return sum([pool.load(broker) for broker in brokers]), members


def least_sum(cluster, leads, brokers):
    """Return the least sum of the loads of a set in loads that come about, and a set that shows it."""
    pool = FreePool(cluster, leads)
    members = pool.scatter(brokers)
    return sum([pool.load(broker) for broker in brokers]), members


def sum_bound(cluster, leads, brokers, members, greatest):
    """Return the number that members, a set, give for the greatest sum of a set, or for the least one."""
    pool = FreePool(cluster, leads)
    have = sum([pool.load(broker) for broker in members])
    more = [cluster.bounds()[broker] for broker in members if broker not in brokers]
    missing = [cluster.bounds()[broker] for broker in brokers if broker not in members]
    if greatest:
        floors, ceilings = sum([row[0] for row in more]), sum([row[1] for row in missing])
        return have + pool.rooms_into(members) - floors + ceilings
    ceilings, floors = sum([row[1] for row in more]), sum([row[0] for row in missing])
    return have - pool.rooms_out_of(members) - ceilings + floors


def best(cluster, leads, weights):
    """Return the greatest worth of loads that come about, such loads, and the levels that show it."""
    pool, levels = FreePool(cluster, leads), []
    different = set(weights)
    for weight in sorted(different, reverse=True):
        # What is handed over now comes from brokers of less weight: so no sum of a level before becomes less.
        members = pool.gather([broker for broker, each in enumerate(weights) if each >= weight])
        levels.append((weight, members))
    have = pool.loads()
    return sum([weight * load for weight, load in zip(weights, have)]), have, levels


def partner(cluster, leads, one, other, broker):
    """Return a broker to which the given one can hand a partition in one loads, getting one from it in the other ones.

    It is found where partitions of the broker go to if the one loads become the other ones.
    """
    pool, everyone = FreePool(cluster, leads), list(range(cluster.size()))
    pool.approach(one, everyone)
    before = pool.leads()
    pool.approach(other, everyone)
    pairs = list(handed(cluster, before, pool.leads()))
    return min([end for end in steps_from(pairs, [broker]) if one[end] < other[end]])
