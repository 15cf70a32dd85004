"""Plans of the fewest switches that hand over what is asked for, with the helping switches that this needs [8] [63]."""

from leadswitch.assignments import loads
from leadswitch.differences import split
from leadswitch.graphs import joined, ring_pairs, way_pairs
from leadswitch.orders import ring_block, way_block


class Maker:
    """Writes a plan and keeps the loads that it has led to so far.

    All but one time of each way is handed over at first, in blocks: no loads but those of its ends change, and these
    only towards the goal. The last time of each way and ring is done switch by switch. A ring can be turned as a block
    as soon as one of its switches is legal.

    A helping switch is done as soon as it is legal while the group of its broker that is awake is run, and is taken
    back when all that it woke has been run: so the loads are as before, and the group can go on.
    """

    def __init__(self, cluster, leads, sleepers):
        self._cluster = cluster
        self._sleepers = sleepers
        self._loads = loads(cluster, leads)
        self._blocks = []
        self._runs = []
        self._rest = [{} for _ in range(sleepers.groups())]
        self._rings = [[] for _ in range(sleepers.groups())]
        self._helpers = []
        self._used = []

    def plan(self, hands, helpers):
        """Return the plan that hands over so many partitions for each pair, with the helpers in their order."""
        self._take(hands)
        self._place(helpers)
        for number, helper in enumerate(self._helpers):
            if helper[1] is None:
                self._help(number)
        for group, is_awake in enumerate(self._sleepers.start()):
            if is_awake:
                self._run(group)
        self._close()
        return self._blocks

    def _take(self, hands):
        """Hand over all but one time of each way, and keep what is left to be done."""
        ways, rings = split(hands)
        for brokers, times in ways:
            self._keep(way_pairs(brokers))
            if times > 1:
                self._blocks.append(way_block(brokers, times - 1, self._takers(brokers)))
                self._loads[brokers[0]] -= times - 1
                self._loads[brokers[-1]] += times - 1
        for brokers, times in rings:
            self._keep(ring_pairs(brokers))
            if times > 1:
                self._rings[self._sleepers.home(brokers[0])].append((brokers, times - 1))

    def _keep(self, pairs):
        rest = self._rest[self._sleepers.home(pairs[0][0])]
        for pair in pairs:
            rest[pair] = rest.get(pair, 0) + 1

    def _place(self, helpers):
        """Keep tuples (pair, group that is awake or None, groups that sleep) of the helpers."""
        awake = self._sleepers.start()
        for one, other in helpers:
            asleep = self._sleepers.asleep(awake, one, other)
            waking = [group for group in (self._sleepers.home(one), self._sleepers.home(other)) if group not in asleep]
            self._helpers.append(((one, other), waking[0] if waking else None, asleep))
            self._used.append(False)
            awake = self._sleepers.woken(awake, one, other)

    def _run(self, group):
        """Do all that a group, which is awake, has to do and to wake."""
        rest = self._rest[group]
        self._help_others(group)
        while rest:
            pair = self._next_pair(rest)
            self._turn_rings(group, pair)
            self._switch(pair)
            _use_up(rest, pair)
            self._help_others(group)

    def _next_pair(self, rest):
        """Return a pair whose switch is legal and after which the others can still be done."""
        for pair in rest:
            if self._may(pair) and self._is_free_after(rest, pair):
                return pair
        return None

    def _may(self, pair):
        one, other = pair
        return self._loads[one] > self._cluster.floor(one) and self._loads[other] < self._cluster.ceiling(other)

    def _is_free_after(self, rest, pair):
        """Return whether each connected part of what is left after a switch can be done, as guarantee 8 tells.

        A part all of whose brokers are at their floors, or all at their ceilings, changes no load.
        """
        left = {each: many for each, many in rest.items()}
        _use_up(left, pair)
        have = list(self._loads)
        have[pair[0]] -= 1
        have[pair[1]] += 1
        for members in joined(list(left)):
            if all([have[broker] == self._cluster.floor(broker) for broker in members]):
                return False
            if all([have[broker] == self._cluster.ceiling(broker) for broker in members]):
                return False
        return True

    def _turn_rings(self, group, pair):
        """Turn all rings of a group to which a pair belongs whose switch is legal."""
        later = []
        for brokers, times in self._rings[group]:
            if pair in ring_pairs(brokers):
                self._close()
                self._blocks.append(ring_block(brokers, times, self._givers(brokers), self._takers(brokers)))
            else:
                later.append((brokers, times))
        self._rings[group] = later

    def _help_others(self, group):
        """Do the helping switches that this group, which is awake, can do now."""
        for number, (pair, waking, _) in enumerate(self._helpers):
            if waking == group and not self._used[number] and self._may(pair):
                self._help(number)

    def _help(self, number):
        """Do a helping switch, run what it wakes, and take it back."""
        pair, _, asleep = self._helpers[number]
        self._used[number] = True
        # A single broker that is woken from below may have no room for a second partition, and the like from above:
        # what it helps in the other direction comes before it is woken itself.
        for group in asleep:
            self._help_others(group)
        self._switch(pair)
        for group in asleep:
            self._run(group)
        self._switch((pair[1], pair[0]))

    def _switch(self, pair):
        one, other = pair
        self._runs.append((one, other, 1))
        self._loads[one] -= 1
        self._loads[other] += 1

    def _close(self):
        if self._runs:
            self._blocks.append((1, self._runs))
        self._runs = []

    def _givers(self, brokers):
        return [broker for broker in brokers if self._loads[broker] > self._cluster.floor(broker)]

    def _takers(self, brokers):
        return [broker for broker in brokers if self._loads[broker] < self._cluster.ceiling(broker)]


def _use_up(rest, pair):
    rest[pair] -= 1
    if rest[pair] == 0:
        del rest[pair]
