"""Clusters of brokers that store bundles of partitions [22]."""

from leadswitch.errors import TooMany, Wrong
from leadswitch.kinds import MOST_COUNT, are_bounds, are_bundles


class Cluster:
    """A cluster: the bounds of its brokers, and its bundles. It never changes."""

    def __init__(self, bounds, bundles):
        if not are_bounds(bounds):
            raise Wrong(0)
        if not are_bundles(bundles, len(bounds)):
            raise Wrong(1)
        self._keep(bounds, bundles)

    def _keep(self, bounds, bundles):
        self._bounds = list(bounds)
        self._bundles = list(bundles)
        self._numbers = {}
        for at, (first, second, _) in enumerate(bundles):
            self._numbers[(first, second)] = at
            self._numbers[(second, first)] = at

    def _changed(self, bounds, bundles):
        # What bounded and grown are passed may go somewhat beyond a limit, and only the constructor reports that:
        # so the lists do not pass through it.
        made = Cluster([(0, 0), (0, 0)], [])
        made._keep(bounds, bundles)
        return made

    def __eq__(self, other):
        return isinstance(other, Cluster) and self._bounds == other._bounds and self._bundles == other._bundles

    def __len__(self):
        return len(self._bundles)

    def size(self):
        """Return the number of brokers."""
        return len(self._bounds)

    def bounds(self):
        """Return the list of all tuples (floor, ceiling)."""
        return list(self._bounds)

    def bundles(self):
        """Return the list of all bundles, tuples (first, second, partitions)."""
        return list(self._bundles)

    def floor(self, broker):
        """Return the least load that a broker may have."""
        return self._bounds[broker][0]

    def ceiling(self, broker):
        """Return the greatest load that a broker may have."""
        return self._bounds[broker][1]

    def is_rigid(self, broker):
        """Return whether the floor of a broker is its ceiling."""
        return self.floor(broker) == self.ceiling(broker)

    def bundle_of(self, one, other):
        """Return the number of the bundle of two different brokers, in either order, or None."""
        return self._numbers.get((one, other))

    def pairs(self):
        """Return the dict of the numbers of all bundles, for their two brokers in either order."""
        return {pair: at for pair, at in self._numbers.items()}

    def bounded(self, broker, floor, ceiling):
        """Return the Cluster in which a broker has these bounds."""
        bounds = self.bounds()
        bounds[broker] = (floor, ceiling)
        return self._changed(bounds, self._bundles)

    def grown(self, one, other, many):
        """Return the Cluster in which the bundle of two different brokers, perhaps a new one, has many more."""
        bundles = self.bundles()
        at = self.bundle_of(one, other)
        if at is None:
            at = len(bundles)
            bundles.append((min(one, other), max(one, other), 0))
        first, second, before = bundles[at]
        if before + many > MOST_COUNT:
            raise TooMany(MOST_COUNT)
        bundles[at] = (first, second, before + many)
        return self._changed(self._bounds, bundles)

    def shrunk(self, one, other, many):
        """Return the Cluster in which the bundle of two brokers has many less; without partitions it is removed."""
        bundles = self.bundles()
        at = self.bundle_of(one, other)
        first, second, before = bundles[at]
        bundles[at] = (first, second, before - many)
        return self._changed(self._bounds, [row for row in bundles if row[2] > 0])
