"""Plans: lists of blocks of runs of switches [31] [32] [33]."""

from leadswitch.assignments import loads
from leadswitch.errors import Stopped
from leadswitch.kinds import is_count, is_integer

MOST_BLOCKS = 400
MOST_RUNS_OF_A_BLOCK = 1000
MOST_RUNS = 4000


def is_plan(cluster, thing):
    """Return whether thing, any value, is a plan, the brokers of each run having a bundle of the cluster."""
    return is_plan_of(cluster.pairs(), thing)


def is_plan_of(pairs, thing):
    """Return whether thing, any value, is a plan, the brokers (one, other) of each run being among a dict of pairs."""
    if not isinstance(thing, list) or len(thing) > MOST_BLOCKS:
        return False
    many = 0
    for block in thing:
        if not _is_block(pairs, block):
            return False
        many += len(block[1])
    return many <= MOST_RUNS


def _is_block(pairs, thing):
    if not isinstance(thing, tuple) or len(thing) != 2:
        return False
    turns, runs = thing
    if not is_count(turns) or not isinstance(runs, list) or not 1 <= len(runs) <= MOST_RUNS_OF_A_BLOCK:
        return False
    return all([_is_run(pairs, run) for run in runs])


def _is_run(pairs, thing):
    if not isinstance(thing, tuple) or len(thing) != 3:
        return False
    one, other, times = thing
    return is_integer(one) and is_integer(other) and is_count(times) and (one, other) in pairs


def length(plan):
    """Return the number of the switches of a plan."""
    return sum([turns * sum([times for _, _, times in runs]) for turns, runs in plan])


def play(cluster, leads, plan):
    """Return the leads after a plan."""
    for block, (turns, runs) in enumerate(plan):
        stop = _first_stop(cluster, leads, runs)
        if stop is not None and stop[0] < turns:
            raise Stopped(block, stop[0], stop[1])
        after, _ = _turn(cluster, leads, runs)
        leads = tuple([before + turns * (now - before) for before, now in zip(leads, after)])
    return leads


def _turn(cluster, leads, runs):
    """Return the leads after one turn, legal or not, and for each run the three rooms that it leaves.

    The rooms are the partitions that one still leads, its load above its floor, and the load of other below its
    ceiling. The switches of the run are legal exactly if no room is less than 0.
    """
    after, have, rooms = list(leads), loads(cluster, leads), []
    bundles = cluster.bundles()
    for one, other, times in runs:
        at = cluster.bundle_of(one, other)
        if one < other:
            after[at] -= times
            left = after[at]
        else:
            after[at] += times
            left = bundles[at][2] - after[at]
        have[one] -= times
        have[other] += times
        rooms.append((left, have[one] - cluster.floor(one), cluster.ceiling(other) - have[other]))
    return tuple(after), rooms


def _first_stop(cluster, leads, runs):
    """Return the first turn and run with a switch that is not legal, if the runs are done without end, or None."""
    after, rooms = _turn(cluster, leads, runs)
    # Each turn changes a room by as much as any other turn does, so two turns tell of all.
    _, later = _turn(cluster, after, runs)
    stops = []
    for run, (now, then) in enumerate(zip(rooms, later)):
        for room, next_room in zip(now, then):
            turn = _first_below(room, next_room - room)
            if turn is not None:
                stops.append((turn, run))
    return min(stops, default=None)


def _first_below(room, change):
    """Return the first turn at which a room, which each turn changes by this, is less than 0, or None."""
    if room < 0:
        return 0
    if change >= 0:
        return None
    return room // -change + 1


def back(plan):
    """Return the plan that takes a plan back."""
    return [(turns, [(other, one, times) for one, other, times in runs[::-1]]) for turns, runs in plan[::-1]]


def most_turns(cluster, leads, runs):
    """Return how many turns of these runs can be done at most; None if this is any number."""
    stop = _first_stop(cluster, leads, runs)
    if stop is None:
        return None
    return stop[0]


def leads_to(cluster, leads, goal, thing):
    """Return whether thing, any value, is a plan that leads from leads to goal."""
    if not is_plan(cluster, thing):
        return False
    try:
        after = play(cluster, leads, thing)
    except Stopped:
        return False
    return after == goal
