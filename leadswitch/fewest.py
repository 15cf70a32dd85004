"""The fewest switches between two leads: pieces, helping switches, and plans [61] [62] [63]."""

from leadswitch.assignments import loads
from leadswitch.differences import first_frozen, handed
from leadswitch.errors import Frozen
from leadswitch.graphs import joined
from leadswitch.kinds import is_pair
from leadswitch.makers import Maker
from leadswitch.sleepers import Sleepers


def pieces(cluster, leads, goal):
    """Return the ascending list of tuples (members, word) of the pieces of the difference of two leads."""
    bundle = first_frozen(cluster, leads, goal)
    if bundle is not None:
        raise Frozen(bundle)
    have = loads(cluster, leads)
    return [(members, _word(cluster, have, members)) for members in joined(list(handed(cluster, leads, goal)))]


def _word(cluster, have, members):
    # If all loads are at their floors, none can fall, so none grows; at their ceilings likewise. So if a load changes
    # the piece is free.
    if all([have[broker] == cluster.floor(broker) for broker in members]):
        return "low"
    if all([have[broker] == cluster.ceiling(broker) for broker in members]):
        return "high"
    return "free"


def helpers(cluster, leads, goal):
    """Return a list of helpers, as few as possible."""
    return _fewest_helpers(Sleepers(cluster, leads, pieces(cluster, leads, goal)))


def _fewest_helpers(sleepers):
    lists = {sleepers.start(): []}
    queue = [sleepers.start()]
    while True:
        awake = queue.pop(0)
        if sleepers.is_done(awake):
            return lists[awake]
        for one, other in sleepers.pairs():
            if sleepers.is_helping(awake, one, other):
                woken = sleepers.woken(awake, one, other)
                if woken not in lists:
                    lists[woken] = lists[awake] + [(one, other)]
                    queue.append(woken)


def are_helpers(cluster, leads, goal, thing):
    """Return whether thing, any value, is a list of helpers, perhaps not as few as possible."""
    sleepers = Sleepers(cluster, leads, pieces(cluster, leads, goal))
    if not isinstance(thing, list):
        return False
    awake = sleepers.start()
    for row in thing:
        if not is_pair(row, cluster.size()) or not sleepers.is_helping(awake, row[0], row[1]):
            return False
        awake = sleepers.woken(awake, row[0], row[1])
    return sleepers.is_done(awake)


def fewest_switches(cluster, leads, goal):
    """Return the fewest switches of a plan that leads from leads to goal."""
    found = helpers(cluster, leads, goal)
    return sum([abs(before - after) for before, after in zip(leads, goal)]) + 2 * len(found)


def fewest_plan(cluster, leads, goal):
    """Return a plan of the fewest switches that leads from leads to goal."""
    sleepers = Sleepers(cluster, leads, pieces(cluster, leads, goal))
    maker = Maker(cluster, leads, sleepers)
    return maker.plan(handed(cluster, leads, goal), _fewest_helpers(sleepers))
