"""What an observer knows who sees loads and switches, but not the leads [91] [92]."""

from leadswitch.errors import Impossible
from leadswitch.pools import whole_pool


class Trail:
    """The leads that are possible for a record, while its switches are followed one after another.

    Its pool holds some of these leads, as they are at the start. Of each bundle, its brokers must have led some
    partitions at the start so that they could hand them on: these have no room in the pool.
    """

    def __init__(self, cluster, start):
        self._cluster = cluster
        self._loads = list(start)
        self._pool = whole_pool(cluster)
        self._pool.approach(start, list(range(cluster.size())))
        self._is_possible = self._pool.loads() == self._loads
        self._kept = {pair: 0 for pair in cluster.pairs()}
        self._gained = {pair: 0 for pair in cluster.pairs()}

    def is_possible(self):
        """Return whether some leads are possible."""
        return self._is_possible

    def follow(self, one, other):
        """Take up the next switch."""
        has_room = self._loads[one] > self._cluster.floor(one) and self._loads[other] < self._cluster.ceiling(other)
        # What one has gained by the switches so far, less those that it must have led, is never less than 0.
        if has_room and self._gained[(one, other)] + self._kept[(one, other)] == 0:
            has_room = self._keep(one, other)
        self._is_possible = self._is_possible and has_room
        self._gained[(one, other)] -= 1
        self._gained[(other, one)] += 1
        self._loads[one] -= 1
        self._loads[other] += 1

    def _keep(self, one, other):
        """Let one have led one partition more at the start, and return whether this is possible."""
        if self._pool.room(one, other) == 0 and self._pool.trade(one, other, 1) == 0:
            return False
        self._pool.connect(one, other, self._pool.room(one, other) - 1, self._pool.room(other, one))
        self._kept[(one, other)] += 1
        return True

    def led(self, one, other):
        """Return how many partitions of their bundle one leads in some possible leads."""
        return self._kept[(one, other)] + self._pool.room(one, other)

    def led_range(self, one, other):
        """Return the tuple of the least and the greatest number of partitions that one leads in possible leads."""
        self._pool.trade(one, other, self._pool.room(other, one))
        most = self.led(one, other)
        self._pool.trade(other, one, self._pool.room(one, other))
        return self.led(one, other), most

    def leads(self):
        """Return some possible leads."""
        return tuple([self.led(first, second) for first, second, _ in self._cluster.bundles()])


def first_bad(cluster, start, switches):
    """Return None if some leads are possible, -1 if none have the loads start, or the index of the first bad switch."""
    return _followed(cluster, start, switches)[1]


def _followed(cluster, start, switches):
    """Return the Trail of a record, up to its first bad switch, and what first_bad returns."""
    trail = Trail(cluster, start)
    if not trail.is_possible():
        return trail, -1
    for at, (one, other) in enumerate(switches):
        trail.follow(one, other)
        if not trail.is_possible():
            return trail, at
    return trail, None


def _possible(cluster, start, switches):
    """Return the Trail of a record."""
    trail, bad = _followed(cluster, start, switches)
    if bad is not None:
        raise Impossible(bad)
    return trail


def possible_leads(cluster, start, switches):
    """Return possible leads."""
    return _possible(cluster, start, switches).leads()


def led_range(cluster, start, switches, one, other):
    """Return the tuple of the least and the greatest number of partitions of a bundle that one led at the start."""
    return _possible(cluster, start, switches).led_range(one, other)
