"""Which brokers that are not rigid are awake, and which sleep low or high, while helping switches wake them [62]."""

from leadswitch.arcs import arcs, givers, takers


class Sleepers:
    """Groups of brokers that wake together: the pieces, and then each broker that is not rigid and in no piece.

    What is awake is told by a tuple with True or False for each group, so that it can be asked for different ones.
    """

    def __init__(self, cluster, leads, pieces):
        self._arcs = {pair: True for pair in arcs(cluster, leads)}
        self._pieces = len(pieces)
        self._groups = [list(members) for members, _ in pieces]
        self._words = [word for _, word in pieces]
        inside = [broker for members in self._groups for broker in members]
        gives, takes = givers(cluster, leads), takers(cluster, leads)
        for broker in range(cluster.size()):
            if broker not in inside and not cluster.is_rigid(broker):
                self._groups.append([broker])
                self._words.append(_word(broker in gives, broker in takes))
        self._homes = {broker: group for group, members in enumerate(self._groups) for broker in members}

    def home(self, broker):
        """Return the group of a broker that is not rigid."""
        return self._homes[broker]

    def groups(self):
        """Return how many groups there are."""
        return len(self._groups)

    def start(self):
        """Return what is awake at first."""
        return tuple([word == "free" for word in self._words])

    def pairs(self):
        """Return the list of all arcs."""
        return list(self._arcs)

    def is_helping(self, awake, one, other):
        """Return whether the switch (one, other) is a helping one."""
        if (one, other) not in self._arcs:
            return False
        here, there = self._homes[one], self._homes[other]
        if awake[here] and awake[there]:
            return False
        gives = awake[here] or self._words[here] == "high"
        takes = awake[there] or self._words[there] == "low"
        return gives and takes

    def asleep(self, awake, one, other):
        """Return the list of those groups of one and other that sleep."""
        return [group for group in (self._homes[one], self._homes[other]) if not awake[group]]

    def woken(self, awake, one, other):
        """Return what is awake after the helping switch (one, other)."""
        more = self.asleep(awake, one, other)
        return tuple([before or group in more for group, before in enumerate(awake)])

    def is_done(self, awake):
        """Return whether no broker of a piece sleeps."""
        return all(list(awake[:self._pieces]))


def _word(gives, takes):
    if gives and takes:
        return "free"
    return "high" if gives else "low"
