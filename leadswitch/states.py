"""A cluster with valid leads, and what deeds make of it [100]."""

from leadswitch.assignments import led, loads
from leadswitch.errors import NoBundle, NotLed, NotValid
from leadswitch.frozen import frozen
from leadswitch.plans import play
from leadswitch.switches import switch


class State:
    """A cluster and valid leads of it. It never changes: each deed returns another State."""

    def __init__(self, cluster, leads):
        self._cluster = cluster
        self._leads = leads
        self._frozen = None

    def cluster(self):
        """Return the Cluster."""
        return self._cluster

    def leads(self):
        """Return the leads."""
        return self._leads

    def frozen(self):
        """Return the ascending list of the numbers of all frozen bundles."""
        # A book asks its states for this again and again.
        if self._frozen is None:
            self._frozen = frozen(self._cluster, self._leads)
        return list(self._frozen)

    def is_frozen(self, one, other):
        """Return whether two different brokers have a bundle, and it is frozen."""
        return self._cluster.bundle_of(one, other) in self.frozen()

    def switched(self, one, other):
        """Return the State after a switch."""
        return State(self._cluster, switch(self._cluster, self._leads, one, other))

    def played(self, plan):
        """Return the State after a plan."""
        return State(self._cluster, play(self._cluster, self._leads, plan))

    def bounded(self, broker, floor, ceiling):
        """Return the State with other bounds of a broker."""
        if not floor <= loads(self._cluster, self._leads)[broker] <= ceiling:
            raise NotValid(broker)
        return State(self._cluster.bounded(broker, floor, ceiling), self._leads)

    def grown(self, one, other, many):
        """Return the State in which a bundle, perhaps a new one, has many more partitions, led by one."""
        cluster = self._cluster.grown(one, other, many)
        if loads(self._cluster, self._leads)[one] + many > cluster.ceiling(one):
            raise NotValid(one)
        leads = list(self._leads)
        if len(cluster) > len(leads):
            leads.append(0)
        if one < other:
            leads[cluster.bundle_of(one, other)] += many
        return State(cluster, tuple(leads))

    def retired(self, one, other, many):
        """Return the State in which a bundle, perhaps removed, has many partitions less, those being led by one."""
        at = self._cluster.bundle_of(one, other)
        if at is None:
            raise NoBundle(one, other)
        if led(self._cluster, self._leads, one, other) < many:
            raise NotLed(one)
        if loads(self._cluster, self._leads)[one] - many < self._cluster.floor(one):
            raise NotValid(one)
        cluster, leads = self._cluster.shrunk(one, other, many), list(self._leads)
        if one < other:
            leads[at] -= many
        if len(cluster) < len(leads):
            del leads[at]
        return State(cluster, tuple(leads))
