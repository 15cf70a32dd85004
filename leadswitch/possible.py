"""Whether a cluster has valid leads, and what shows that it has none [90]."""

from leadswitch.kinds import is_set
from leadswitch.pools import whole_pool


def find_leads(cluster):
    """Return ("leads", leads) with valid leads, or ("over", members) or ("under", members) if there are none."""
    brokers, rows = list(range(cluster.size())), cluster.bundles()
    pool = whole_pool(cluster)
    # Here rigid brokers hand on, too. What is above a ceiling, and still reaches brokers, fills all their ceilings.
    inside = pool.approach([ceiling for _, ceiling in cluster.bounds()], brokers)
    if inside:
        return ("over", sorted(inside))
    # Brokers that are not reached from those above their floors get nothing more; and then no load falls too low.
    inside = pool.approach([floor for floor, _ in cluster.bounds()], brokers)
    if any([pool.load(broker) < cluster.floor(broker) for broker in brokers]):
        return ("under", [broker for broker in brokers if broker not in inside])
    return ("leads", tuple([pool.room(first, second) for first, second, _ in rows]))


def is_impossible(cluster, thing):
    """Return whether thing, any value, is a tuple that shows that a cluster has no valid leads."""
    if not isinstance(thing, tuple) or len(thing) != 2 or not isinstance(thing[0], str):
        return False
    kind, members = thing
    if not is_set(members, cluster.size()):
        return False
    rows = cluster.bundles()
    if kind == "over":
        inside = sum([row[2] for row in rows if row[0] in members and row[1] in members])
        return inside > sum([cluster.ceiling(broker) for broker in members])
    touched = sum([row[2] for row in rows if row[0] in members or row[1] in members])
    return kind == "under" and touched < sum([cluster.floor(broker) for broker in members])
