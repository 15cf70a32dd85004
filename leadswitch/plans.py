"""Plans: lists of blocks of runs of switches [31] [32] [33]."""

from leadswitch.assignments import loads
from leadswitch.errors import Stopped
from leadswitch.kinds import MOST_COUNT, is_count

MOST_BLOCKS = 400
MOST_RUNS_OF_A_BLOCK = 1000
MOST_RUNS = 4000


def is_plan(cluster, thing):
    """Return whether thing, any value, is a plan, the brokers of each run having a bundle of the cluster."""
    return is_plan_of(cluster.pairs(), thing)


def is_plan_of(pairs, thing):
    """Return whether thing, any value, is a plan, the brokers (one, other) of each run being among a dict of pairs."""
    if not isinstance(thing, list) or len(thing) > MOST_BLOCKS:
        return False
    many = 0
    for block in thing:
        if not isinstance(block, tuple) or len(block) != 2:
            return False
        turns, runs = block
        if not is_count(turns) or not isinstance(runs, list) or not 1 <= len(runs) <= MOST_RUNS_OF_A_BLOCK:
            return False
        if not _are_runs(pairs, runs):
            return False
        many += len(runs)
    return many <= MOST_RUNS


def _are_runs(pairs, things):
    # A plan may have thousands of runs, and to call a function for each number would take longer than all else.
    for thing in things:
        if not isinstance(thing, tuple) or len(thing) != 3:
            return False
        one, other, times = thing
        if not isinstance(one, int) or not isinstance(other, int) or not isinstance(times, int):
            return False
        if isinstance(one, bool) or isinstance(other, bool) or isinstance(times, bool):
            return False
        if not 1 <= times <= MOST_COUNT or (one, other) not in pairs:
            return False
    return True


def length(plan):
    """Return the number of the switches of a plan."""
    return sum([turns * sum([times for _, _, times in runs]) for turns, runs in plan])


def play(cluster, leads, plan):
    """Return the leads after a plan."""
    walk = Walk(cluster, leads)
    for block, (turns, runs) in enumerate(plan):
        stop = walk.do(turns, runs)
        if stop is not None:
            raise Stopped(block, stop[0], stop[1])
    return walk.leads()


class Walk:
    """The leads and the loads while the blocks of a plan are done."""

    def __init__(self, cluster, leads):
        self._cluster = cluster
        self._leads = list(leads)
        self._loads = loads(cluster, leads)
        self._pairs = cluster.pairs()
        self._partitions = [partitions for _, _, partitions in cluster.bundles()]
        self._floors = [floor for floor, _ in cluster.bounds()]
        self._ceilings = [ceiling for _, ceiling in cluster.bounds()]

    def leads(self):
        """Return the leads that have been come to."""
        return tuple(self._leads)

    def do(self, turns, runs):
        """Do a block, and return None, or the first turn and run with a switch that is not legal."""
        leads, have = list(self._leads), list(self._loads)
        run = self._turn(runs)
        if run is not None:
            return (0, run)
        if turns == 1 or self._leads == leads:
            return None
        # Each turn changes a room by as much as any other turn does: what is legal in the first one and in the last
        # one is legal in all between.
        self._leads = [before + (turns - 1) * (now - before) for before, now in zip(leads, self._leads)]
        self._loads = [before + (turns - 1) * (now - before) for before, now in zip(have, self._loads)]
        if self._turn(runs) is None:
            return None
        return _first_stop(self._cluster, tuple(leads), runs)

    def _turn(self, runs):
        """Do a turn, and return None, or the first run with a switch that is not legal."""
        led, have, pairs = self._leads, self._loads, self._pairs
        partitions, floors, ceilings = self._partitions, self._floors, self._ceilings
        for run, (one, other, times) in enumerate(runs):
            at = pairs[(one, other)]
            number = led[at] - times if one < other else led[at] + times
            less, more = have[one] - times, have[other] + times
            if not 0 <= number <= partitions[at] or less < floors[one] or more > ceilings[other]:
                return run
            led[at] = number
            have[one] = less
            have[other] = more
        return None


def _rooms_of(cluster, leads, runs):
    """Return the leads after one turn, legal or not, and for each run the three rooms that it leaves.

    The rooms are the partitions that one still leads, its load above its floor, and the load of other below its
    ceiling. The switches of the run are legal exactly if no room is less than 0.
    """
    after, have, rooms = list(leads), loads(cluster, leads), []
    bundles = cluster.bundles()
    for one, other, times in runs:
        at = cluster.bundle_of(one, other)
        if one < other:
            after[at] -= times
            left = after[at]
        else:
            after[at] += times
            left = bundles[at][2] - after[at]
        have[one] -= times
        have[other] += times
        rooms.append((left, have[one] - cluster.floor(one), cluster.ceiling(other) - have[other]))
    return tuple(after), rooms


def _first_stop(cluster, leads, runs):
    """Return the first turn and run with a switch that is not legal, if the runs are done without end, or None."""
    after, rooms = _rooms_of(cluster, leads, runs)
    # Each turn changes a room by as much as any other turn does, so two turns tell of all.
    _, later = _rooms_of(cluster, after, runs)
    stops = []
    for run, (now, then) in enumerate(zip(rooms, later)):
        for room, next_room in zip(now, then):
            turn = _first_below(room, next_room - room)
            if turn is not None:
                stops.append((turn, run))
    return min(stops, default=None)


def _first_below(room, change):
    """Return the first turn at which a room, which each turn changes by this, is less than 0, or None."""
    if room < 0:
        return 0
    if change >= 0:
        return None
    return room // -change + 1


def back(plan):
    """Return the plan that takes a plan back."""
    return [(turns, [(other, one, times) for one, other, times in runs[::-1]]) for turns, runs in plan[::-1]]


def most_turns(cluster, leads, runs):
    """Return how many turns of these runs can be done at most; None if this is any number."""
    stop = _first_stop(cluster, leads, runs)
    if stop is None:
        return None
    return stop[0]


def leads_to(cluster, leads, goal, thing):
    """Return whether thing, any value, is a plan that leads from leads to goal."""
    if not is_plan(cluster, thing):
        return False
    try:
        after = play(cluster, leads, thing)
    except Stopped:
        return False
    return after == goal
