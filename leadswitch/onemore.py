"""The fewest switches after which a broker leads one partition more of a bundle, or what stops this [53] [54]."""

from leadswitch.arcs import arcs, givers, takers
from leadswitch.assignments import led
from leadswitch.errors import NoBundle, NotLed
from leadswitch.graphs import first_shortest, steps_from, turned, way_pairs
from leadswitch.obstacles import first_obstacle, is_obstacle
from leadswitch.orders import ring_block


def stop_of(cluster, leads, one, other):
    """Return the stop of the first possible kind, with the least broker or the greatest set, or None."""
    return first_obstacle(cluster, leads, _other_arcs(cluster, leads, one, other), [one, other], [one], [other])


def is_stop(cluster, leads, one, other, thing):
    """Return whether thing, any value, is a stop."""
    pairs = _other_arcs(cluster, leads, one, other)
    return is_obstacle(cluster, leads, pairs, [one, other], [one], [other], thing)


def _other_arcs(cluster, leads, one, other):
    """Return the list of all arcs of other bundles than that of one and other."""
    return [pair for pair in arcs(cluster, leads) if pair != (one, other) and pair != (other, one)]


def fewest(cluster, leads, one, other):
    """Return ("plan", plan) with a plan of the fewest switches that hand other one more, or ("never", stop)."""
    if cluster.bundle_of(one, other) is None:
        raise NoBundle(one, other)
    if led(cluster, leads, one, other) == 0:
        raise NotLed(one)
    stop = stop_of(cluster, leads, one, other)
    if stop is not None:
        return ("never", stop)
    pairs = _other_arcs(cluster, leads, one, other)
    give, take = givers(cluster, leads), takers(cluster, leads)
    before, after = _way_from(pairs, give, one), _way_to(pairs, other, take)
    ring = first_shortest(pairs, other, one)
    if _is_shorter(ring, before, after):
        return ("plan", [ring_block(ring, 1, give, take)])
    # Those behind the giver are no givers, so they take first; those ahead of the taker are no takers.
    order = way_pairs(before) + way_pairs(after)[::-1] + [(one, other)]
    return ("plan", [(1, [(tail, head, 1) for tail, head in order])])


def _way_from(pairs, give, one):
    """Return a way with the fewest steps from a giver to one."""
    steps = steps_from(turned(pairs), [one])
    least = min([(steps[broker], broker) for broker in give if broker in steps])
    return first_shortest(pairs, least[1], one)


def _way_to(pairs, other, take):
    """Return a way with the fewest steps from other to a taker."""
    steps = steps_from(pairs, [other])
    least = min([(steps[broker], broker) for broker in take if broker in steps])
    return first_shortest(pairs, other, least[1])


def _is_shorter(ring, before, after):
    """Return whether the ring of a way from other to one can be done, and with fewer switches.

    If one is no giver it is a taker, and if other is no taker it is a giver: so the ring has both. Otherwise a ring
    with both is no shorter, because one of the two ways has no steps, and the other one is part of the ring.
    """
    if ring is None or len(before) == 1 or len(after) == 1:
        return False
    return len(ring) < len(before) + len(after) - 1
