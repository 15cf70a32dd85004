"""Plans along ways and around rings, and whether a plan leads to other leads [50] [51] [52]."""

from leadswitch.arcs import givers, takers
from leadswitch.assignments import led, loads
from leadswitch.differences import first_frozen
from leadswitch.errors import NotLegal
from leadswitch.fewest import fewest_plan
from leadswitch.frozen import bar
from leadswitch.graphs import ring_pairs, way_pairs
from leadswitch.orders import ring_block, way_block


def along(cluster, leads, brokers, times):
    """Return a plan of one block that switches each two neighbours of a list of brokers exactly so many times."""
    have, first, last = loads(cluster, leads), brokers[0], brokers[-1]
    if not _can_hand(cluster, leads, way_pairs(brokers), times):
        raise NotLegal()
    if have[first] - times < cluster.floor(first) or have[last] + times > cluster.ceiling(last):
        raise NotLegal()
    return [way_block(brokers, times, takers(cluster, leads))]


def around(cluster, leads, brokers, times):
    """Return a plan of one block that switches each two neighbours of a ring of brokers exactly so many times."""
    give, take = givers(cluster, leads), takers(cluster, leads)
    if not _can_hand(cluster, leads, ring_pairs(brokers), times):
        raise NotLegal()
    if not any([broker in give for broker in brokers]) or not any([broker in take for broker in brokers]):
        raise NotLegal()
    return [ring_block(brokers, times, give, take)]


def _can_hand(cluster, leads, pairs, times):
    """Return whether no broker of the pairs is rigid, and the first one of each leads at least so many partitions."""
    for one, other in pairs:
        if cluster.is_rigid(one) or cluster.is_rigid(other) or led(cluster, leads, one, other) < times:
            return False
    return True


def decide(cluster, leads, goal):
    """Return ("plan", plan) with a plan that leads from leads to goal, or ("frozen", bundle, bar) if there is none."""
    bundle = first_frozen(cluster, leads, goal)
    if bundle is not None:
        return ("frozen", bundle, bar(cluster, leads, bundle))
    return ("plan", fewest_plan(cluster, leads, goal))
