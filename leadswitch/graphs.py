"""Ways along pairs (one, other) of brokers, whatever the pairs are."""


def turned(pairs):
    """Return the pairs in the opposite direction."""
    return [(other, one) for one, other in pairs]


def steps_from(pairs, starts):
    """Return a dict of the fewest steps from some of starts to each broker to which the pairs lead."""
    steps = {start: 0 for start in starts}
    queue = list(starts)
    while queue:
        here = queue.pop(0)
        for one, other in pairs:
            if one == here and other not in steps:
                steps[other] = steps[here] + 1
                queue.append(other)
    return steps


def first_shortest(pairs, one, other):
    """Return the first, as lists are ordered, of the ways with the fewest steps from one to other, or None."""
    steps = steps_from(turned(pairs), [other])
    if one not in steps:
        return None
    way = [one]
    while way[-1] != other:
        wanted = steps[way[-1]] - 1
        way.append(min([head for tail, head in pairs if tail == way[-1] and steps.get(head) == wanted]))
    return way
