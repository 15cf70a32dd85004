"""What bars and stops have in common: rigid brokers, low sets and high sets, along whatever pairs.

An obstacle is one of the tuples ("rigid", broker) with a rigid one of ends, ("low", members) with members that
contain one of lows, and ("high", members) with members that contain one of highs. The pairs are arcs.
"""

from leadswitch.arcs import givers, takers
from leadswitch.graphs import steps_from, turned
from leadswitch.kinds import is_broker, is_set


def greatest_low(cluster, leads, pairs):
    """Return the greatest set without rigid brokers and givers into which none of the pairs leads."""
    return _others(cluster, steps_from(pairs, givers(cluster, leads)))


def greatest_high(cluster, leads, pairs):
    """Return the greatest set without rigid brokers and takers out of which none of the pairs leads."""
    return _others(cluster, steps_from(turned(pairs), takers(cluster, leads)))


def _others(cluster, steps):
    return [broker for broker in range(cluster.size()) if not cluster.is_rigid(broker) and broker not in steps]


def is_low(cluster, leads, pairs, members):
    """Return whether members, a set, has no rigid brokers and no givers, and none of the pairs leads into it."""
    return _is_closed(cluster, pairs, members, givers(cluster, leads))


def is_high(cluster, leads, pairs, members):
    """Return whether members, a set, has no rigid brokers and no takers, and none of the pairs leads out of it."""
    return _is_closed(cluster, turned(pairs), members, takers(cluster, leads))


def _is_closed(cluster, pairs, members, barred):
    if any([cluster.is_rigid(broker) or broker in barred for broker in members]):
        return False
    return not any([one not in members and other in members for one, other in pairs])


def first_obstacle(cluster, leads, pairs, ends, lows, highs):
    """Return the first kind of obstacle that is possible, with the least broker or the greatest set, or None."""
    rigid = [broker for broker in sorted(ends) if cluster.is_rigid(broker)]
    if rigid:
        return ("rigid", rigid[0])
    members = greatest_low(cluster, leads, pairs)
    if _meet(members, lows):
        return ("low", members)
    members = greatest_high(cluster, leads, pairs)
    if _meet(members, highs):
        return ("high", members)
    return None


def is_obstacle(cluster, leads, pairs, ends, lows, highs, thing):
    """Return whether thing, any value, is an obstacle."""
    if not isinstance(thing, tuple) or len(thing) != 2 or not isinstance(thing[0], str):
        return False
    kind, what = thing
    if kind == "rigid":
        return is_broker(what, cluster.size()) and what in ends and cluster.is_rigid(what)
    if not is_set(what, cluster.size()):
        return False
    if kind == "low":
        return _meet(what, lows) and is_low(cluster, leads, pairs, what)
    return kind == "high" and _meet(what, highs) and is_high(cluster, leads, pairs, what)


def _meet(members, wanted):
    return any([broker in members for broker in wanted])
