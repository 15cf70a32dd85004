"""The fewest switches to loads within ranges, with prices that show it, or why there are none [60]."""

from leadswitch.arcs import arcs
from leadswitch.assignments import led, loads
from leadswitch.fewest import fewest_plan
from leadswitch.flows import Network
from leadswitch.kinds import is_set


def to_ranges(cluster, leads, ranges):
    """Return ("plan", plan, prices) with a plan of the fewest switches to ranges, or ("never", members)."""
    flow = Flow(cluster, leads, ranges)
    members = flow.settle()
    if members is not None:
        return ("never", members)
    return ("plan", fewest_plan(cluster, leads, flow.goal()), flow.prices())


class Flow:
    """A flow of partitions of the least cost: each switch costs 1.

    The load of each broker flows into it from a source, and from it to a sink: its least directly, and what it keeps
    above this through a hub, where this counts together.
    """

    def __init__(self, cluster, leads, ranges):
        self._cluster = cluster
        self._leads = leads
        self._brokers = [broker for broker in range(cluster.size()) if not cluster.is_rigid(broker)]
        have = loads(cluster, leads)
        self._total = sum([have[broker] for broker in self._brokers])
        self._spare = self._total - sum([ranges[broker][0] for broker in self._brokers])
        self._hub = cluster.size()
        self._source = self._hub + 1
        self._sink = self._hub + 2
        self._network = Network(self._hub + 3)
        for broker in self._brokers:
            least, most = ranges[broker]
            self._network.connect(self._source, broker, have[broker], 0)
            self._network.connect(broker, self._sink, least, 0)
            self._network.connect(broker, self._hub, most - least, 0)
        self._network.connect(self._hub, self._sink, max(self._spare, 0), 0)
        self._switches = []
        for one, other in arcs(cluster, leads):
            number = self._network.connect(one, other, led(cluster, leads, one, other), 1)
            self._switches.append((one, other, number))

    def settle(self):
        """Let all loads flow, and return None, or a set that shows that they cannot come into the ranges."""
        if self._spare < 0:
            return list(self._brokers)
        if self._network.push(self._source, self._sink) == self._total:
            return None
        # What is reached has too little room for its loads, or, if the hub is reached, too little comes to the others.
        inside = self._network.reached(self._source)
        return [broker for broker in self._brokers if (broker in inside) != (self._hub in inside)]

    def goal(self):
        """Return the leads after the switches that flow."""
        after = list(self._leads)
        for one, other, number in self._switches:
            many = self._network.flow(number)
            if other < one:
                many = -many
            after[self._cluster.bundle_of(one, other)] -= many
        return tuple(after)

    def prices(self):
        """Return what one partition less of the load of each broker saves."""
        found = self._network.prices()
        prices = [0] * self._cluster.size()
        for broker in self._brokers:
            prices[broker] = found[broker] - found[self._hub]
        return prices


def worth(cluster, leads, ranges, prices):
    """Return the worth of prices, at leads and for ranges."""
    total = 0
    for load, (least, most), price in zip(loads(cluster, leads), ranges, prices):
        if price > 0:
            total += price * (load - most)
        if price < 0:
            total += price * (load - least)
    for one, other in arcs(cluster, leads):
        if prices[one] - prices[other] > 1:
            total -= led(cluster, leads, one, other) * (prices[one] - prices[other] - 1)
    return total


def is_never(cluster, leads, ranges, thing):
    """Return whether thing, any value, is a set of brokers that shows that no plan leads to loads within ranges."""
    if not is_set(thing, cluster.size()) or len(thing) == 0 or any([cluster.is_rigid(broker) for broker in thing]):
        return False
    have = loads(cluster, leads)
    out, into = 0, 0
    for one, other in arcs(cluster, leads):
        if one in thing and other not in thing:
            out += led(cluster, leads, one, other)
        if other in thing and one not in thing:
            into += led(cluster, leads, one, other)
    total = sum([have[broker] for broker in thing])
    if total - out > sum([ranges[broker][1] for broker in thing]):
        return True
    return total + into < sum([ranges[broker][0] for broker in thing])
