"""Blocks of a way or a ring, in whose turns each broker takes before it gives, or gives before it takes [50] [51].

Only the first and the last broker of a way get other loads by a turn; all others must be able to do one of the two.
"""

from leadswitch.graphs import way_pairs, ring_pairs


def way_block(brokers, times, takers):
    """Return the block that hands times partitions along a way of brokers; takers are those that may take first."""
    return (times, _runs(way_pairs(brokers), takers))


def ring_block(brokers, times, givers, takers):
    """Return the block that hands times partitions around a ring, in which there are a giver and a taker."""
    firsts = [broker for broker in brokers if broker in takers]
    if len(firsts) == len(brokers):
        # If all took before they give, none could be the first to give.
        firsts.remove([broker for broker in brokers if broker in givers][0])
    start = [at for at, broker in enumerate(brokers) if broker not in firsts][0]
    return (times, _runs(ring_pairs(brokers[start:] + brokers[:start]), firsts))


def _runs(pairs, firsts):
    """Return a run for each of the neighbouring pairs, in an order in which those of firsts take before they give."""
    order, held = [], []
    for pair in pairs:
        if pair[0] in firsts:
            order = order + held[::-1]
            held = []
        held.append(pair)
    return [(one, other, 1) for one, other in order + held[::-1]]
