"""Pools of loads that brokers hand to each other, as far as there is room."""

from leadswitch.assignments import loads


class Pool:
    """The loads of brokers, and the rooms: how many partitions each broker can still hand to each other one."""

    def __init__(self, have):
        self._loads = list(have)
        self._rooms = [{} for _ in have]

    def connect(self, one, other, there, back):
        """Let one hand so many partitions to other, and other so many to one."""
        self._rooms[one][other] = there
        self._rooms[other][one] = back

    def loads(self):
        """Return the list of the loads."""
        return list(self._loads)

    def load(self, broker):
        """Return the load of a broker."""
        return self._loads[broker]

    def room(self, one, other):
        """Return how many partitions one can hand to other; None if they are not connected."""
        return self._rooms[one].get(other)

    def rooms_into(self, members):
        """Return how many partitions brokers that are not members can hand to members."""
        return sum([many for one, row in enumerate(self._rooms) if one not in members
                    for other, many in row.items() if other in members])

    def rooms_out_of(self, members):
        """Return how many partitions members can hand to brokers that are not members."""
        return sum([many for one in members for other, many in self._rooms[one].items() if other not in members])

    def reached(self, starts):
        """Return the dict of all brokers to which partitions can be handed on from some of starts."""
        gives = [int(broker in starts) for broker in range(len(self._loads))]
        return self._search(gives, [0] * len(gives))[0]

    def push(self, gives, takes):
        """Hand on as much as possible from brokers that can give so much to other ones that can take so much.

        Return the dict of all brokers that are reached in the end from those that can still give.
        """
        gives, takes = list(gives), list(takes)
        while True:
            befores, last = self._search(gives, takes)
            if last is None:
                return befores
            way = [last]
            while befores[way[-1]] is not None:
                way.append(befores[way[-1]])
            way = way[::-1]
            rooms = [self._rooms[one][other] for one, other in zip(way, way[1:])]
            many = min([gives[way[0]], takes[last]] + rooms)
            self._hand(way, many)
            gives[way[0]] -= many
            takes[last] -= many

    def _search(self, gives, takes):
        """Return the broker before each one that is reached, and the first one that can take, or None.

        Those that can give are reached first, and the others with the fewest steps.
        """
        front = [broker for broker, many in enumerate(gives) if many > 0]
        befores = {broker: None for broker in front}
        while front:
            ahead = []
            for one in front:
                for other, many in self._rooms[one].items():
                    if many > 0 and other not in befores:
                        befores[other] = one
                        if takes[other] > 0:
                            return befores, other
                        ahead.append(other)
            front = ahead
        return befores, None

    def _hand(self, way, many):
        for one, other in zip(way, way[1:]):
            self._rooms[one][other] -= many
            self._rooms[other][one] += many
        self._loads[way[0]] -= many
        self._loads[way[-1]] += many

    def approach(self, wished, brokers):
        """Bring the loads of some brokers as near to the wished ones as they can bring each other.

        Return the dict of all brokers that are reached in the end from those that have too much.
        """
        gives, takes = [0] * len(self._loads), [0] * len(self._loads)
        for broker in brokers:
            gives[broker] = max(self._loads[broker] - wished[broker], 0)
            takes[broker] = max(wished[broker] - self._loads[broker], 0)
        return self.push(gives, takes)

    def trade(self, one, other, most):
        """Let one lead up to so many more partitions of its bundle with other, all loads staying; return how many."""
        there, back = self._rooms[one][other], self._rooms[other][one]
        gives, takes = [0] * len(self._loads), [0] * len(self._loads)
        gives[one] = takes[other] = min(most, back)
        # What one gets in this bundle it gives back by ways of other bundles.
        self.connect(one, other, 0, 0)
        before = self._loads[one]
        self.push(gives, takes)
        many = before - self._loads[one]
        self.connect(one, other, there + many, back - many)
        self._loads[one] += many
        self._loads[other] -= many
        return many


def whole_pool(cluster):
    """Return the Pool of leads, perhaps not valid, in which all brokers can hand on what they lead."""
    leads = tuple([partitions // 2 for _, _, partitions in cluster.bundles()])
    pool = Pool(loads(cluster, leads))
    for number, (first, second, partitions) in zip(leads, cluster.bundles()):
        pool.connect(first, second, number, partitions - number)
    return pool


class FreePool(Pool):
    """The Pool of valid leads in which the brokers that are not rigid hand on what they lead.

    It hands on from givers to takers alone, and a plan can do the same [50]. So no frozen bundle gets other leads, and
    the loads to which it can come are those that come about.
    """

    def __init__(self, cluster, leads):
        Pool.__init__(self, loads(cluster, leads))
        self._cluster = cluster
        self._leads = leads
        free = [floor < ceiling for floor, ceiling in cluster.bounds()]
        for number, (first, second, partitions) in zip(leads, cluster.bundles()):
            if free[first] and free[second]:
                self.connect(first, second, number, partitions - number)

    def copied(self):
        """Return a FreePool that goes on from here independently."""
        return FreePool(self._cluster, self.leads())

    def leads(self):
        """Return the leads to which it has come."""
        found = []
        for number, (first, second, _) in zip(self._leads, self._cluster.bundles()):
            many = self.room(first, second)
            found.append(number if many is None else many)
        return tuple(found)

    def free(self):
        """Return the set of the brokers that are not rigid."""
        return [broker for broker, (floor, ceiling) in enumerate(self._cluster.bounds()) if floor < ceiling]

    def gather(self, brokers):
        """Make the sum of the loads of a set as great as possible; return a set that shows that it is not greater."""
        inside = self._transfer(self._others(brokers), brokers)
        return [broker for broker in self.free() if broker not in inside]

    def scatter(self, brokers):
        """Make the sum of the loads of a set as small as possible; return a set that shows that it is not less."""
        return sorted(self._transfer(brokers, self._others(brokers)))

    def _others(self, brokers):
        return [broker for broker in range(self._cluster.size()) if broker not in brokers]

    def _transfer(self, givers, takers):
        bounds = self._cluster.bounds()
        gives, takes = [0] * len(bounds), [0] * len(bounds)
        for broker in givers:
            gives[broker] = self.load(broker) - bounds[broker][0]
        for broker in takers:
            takes[broker] = bounds[broker][1] - self.load(broker)
        return self.push(gives, takes)

    def move(self, broker, wished):
        """Bring the load of a broker as near to wished as those after it can; those before it keep their loads."""
        bounds, load = self._cluster.bounds(), self.load(broker)
        gives, takes = [0] * len(bounds), [0] * len(bounds)
        if load < wished:
            takes[broker] = min(wished, bounds[broker][1]) - load
            for each in range(broker + 1, len(bounds)):
                gives[each] = self.load(each) - bounds[each][0]
        else:
            gives[broker] = load - max(wished, bounds[broker][0])
            for each in range(broker + 1, len(bounds)):
                takes[each] = bounds[each][1] - self.load(each)
        self.push(gives, takes)

    def settle(self, start):
        """Make the loads from the broker start on the least ones, as lists are ordered; those before it stay."""
        for broker in range(start, self._cluster.size()):
            self.move(broker, self._cluster.floor(broker))

    def advance(self):
        """Go on to the loads that come next, as lists are ordered, and return whether there are any."""
        for broker in reversed(range(self._cluster.size())):
            load = self.load(broker)
            self.move(broker, load + 1)
            if self.load(broker) > load:
                self.settle(broker + 1)
                return True
        return False
