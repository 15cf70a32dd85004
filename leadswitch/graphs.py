"""Ways along pairs (one, other) of brokers, whatever the pairs are."""


def turned(pairs):
    """Return the pairs in the opposite direction."""
    return [(other, one) for one, other in pairs]


def steps_from(pairs, starts):
    """Return a dict of the fewest steps from some of starts to each broker to which the pairs lead."""
    steps = {start: 0 for start in starts}
    queue = list(starts)
    while queue:
        here = queue.pop(0)
        for one, other in pairs:
            if one == here and other not in steps:
                steps[other] = steps[here] + 1
                queue.append(other)
    return steps


def first_shortest(pairs, one, other):
    """Return the first, as lists are ordered, of the ways with the fewest steps from one to other, or None."""
    steps = steps_from(turned(pairs), [other])
    if one not in steps:
        return None
    way = [one]
    while way[-1] != other:
        wanted = steps[way[-1]] - 1
        way.append(min([head for tail, head in pairs if tail == way[-1] and steps.get(head) == wanted]))
    return way


def joined(pairs):
    """Return the ascending list of the sets of brokers that the pairs connect, whatever their directions."""
    home = {broker: broker for pair in pairs for broker in pair}
    for one, other in pairs:
        kept, gone = home[one], home[other]
        home = {broker: kept if where == gone else where for broker, where in home.items()}
    found = {}
    for broker in sorted(home):
        found.setdefault(home[broker], []).append(broker)
    return list(found.values())


def way_pairs(brokers):
    """Return the pairs of neighbours in a list of brokers."""
    return [(one, other) for one, other in zip(brokers, brokers[1:])]


def ring_pairs(brokers):
    """Return the pairs of neighbours in a ring of brokers, the last one and the first one being neighbours, too."""
    return way_pairs(brokers + brokers[:1])
