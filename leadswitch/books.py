"""Books of clusters that change [100] [101]."""

from leadswitch.assignments import are_leads, first_invalid, loads
from leadswitch.clusters import Cluster
from leadswitch.errors import Frozen, Nothing, TooMany, Wrong
from leadswitch.fewest import fewest_switches
from leadswitch.kinds import is_amount, is_broker, is_count
from leadswitch.plans import is_plan
from leadswitch.states import State

MOST_DEEDS = 200


class Book:
    """A Cluster and valid leads of it, and the deeds that have changed them."""

    def __init__(self, cluster, leads):
        if not isinstance(cluster, Cluster):
            raise Wrong(0)
        if not are_leads(cluster, leads) or first_invalid(cluster, leads) is not None:
            raise Wrong(1)
        # There is one State more than deeds that stand: the one with which the Book begins.
        self._states = [State(cluster, leads)]
        self._deeds = []
        self._undone = []

    def __len__(self):
        return len(self._deeds)

    def switch(self, one, other):
        """Do a switch."""
        self._check_brokers(one, other)
        self._do(("switch", one, other), self._states[-1].switched(one, other))

    def play(self, plan):
        """Do a plan."""
        if not is_plan(self.cluster(), plan):
            raise Wrong(0)
        self._do(("play", _copied_plan(plan)), self._states[-1].played(plan))

    def bound(self, broker, floor, ceiling):
        """Give a broker other bounds."""
        if not is_broker(broker, self.cluster().size()):
            raise Wrong(0)
        if not is_amount(floor):
            raise Wrong(1)
        if not is_amount(ceiling) or floor > ceiling:
            raise Wrong(2)
        self._do(("bound", broker, floor, ceiling), self._states[-1].bounded(broker, floor, ceiling))

    def grow(self, one, other, many):
        """Add many partitions to a bundle, perhaps a new one, all led by one."""
        self._check_brokers(one, other)
        if not is_count(many):
            raise Wrong(2)
        self._do(("grow", one, other, many), self._states[-1].grown(one, other, many))

    def retire(self, one, other, many):
        """Remove many partitions, led by one, from a bundle."""
        self._check_brokers(one, other)
        if not is_count(many):
            raise Wrong(2)
        self._do(("retire", one, other, many), self._states[-1].retired(one, other, many))

    def _check_brokers(self, one, other):
        size = self.cluster().size()
        if not is_broker(one, size):
            raise Wrong(0)
        if not is_broker(other, size) or one == other:
            raise Wrong(1)

    def _do(self, deed, state):
        if len(self._deeds) >= MOST_DEEDS:
            raise TooMany(MOST_DEEDS)
        self._deeds.append(deed)
        self._states.append(state)
        self._undone = []

    def undo(self):
        """Take the last deed back."""
        if len(self._deeds) == 0:
            raise Nothing()
        self._undone.append((self._deeds.pop(), self._states.pop()))

    def redo(self):
        """Do the deed again that was taken back last."""
        if len(self._undone) == 0:
            raise Nothing()
        deed, state = self._undone.pop()
        self._deeds.append(deed)
        self._states.append(state)

    def cluster(self):
        """Return the present Cluster."""
        return self._states[-1].cluster()

    def leads(self):
        """Return the present leads."""
        return self._states[-1].leads()

    def loads(self):
        """Return the list of the present loads."""
        return loads(self.cluster(), self.leads())

    def frozen(self):
        """Return the ascending list of the numbers of all frozen bundles."""
        return self._states[-1].frozen()

    def frozen_since(self, one, other):
        """Return after how many deeds a bundle was frozen and has always been since; None if it is not frozen now."""
        since = None
        for at in reversed(range(len(self._states))):
            if not self._states[at].is_frozen(one, other):
                return since
            since = at
        return since

    def deeds(self):
        """Return the list of the deeds that stand."""
        return [("play", _copied_plan(deed[1])) if deed[0] == "play" else deed for deed in self._deeds]

    def way_back(self):
        """Return the fewest switches to the leads with which the Book began; None if no plan leads there."""
        first = self._states[0]
        if first.cluster() != self.cluster():
            return None
        try:
            return fewest_switches(self.cluster(), self.leads(), first.leads())
        except Frozen:
            return None

    def copied(self):
        """Return a Book with the same deeds, and the same deeds to redo, that goes on independently."""
        made = Book(self._states[0].cluster(), self._states[0].leads())
        # No State and no deed that is kept ever changes.
        made._states = list(self._states)
        made._deeds = list(self._deeds)
        made._undone = list(self._undone)
        return made


def _copied_plan(plan):
    return [(turns, list(runs)) for turns, runs in plan]
