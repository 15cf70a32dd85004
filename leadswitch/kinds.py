"""The kinds of values [2] [21]. A thing is any value, a size that of a cluster."""

MOST_AMOUNT = 10 ** 30
MOST_COUNT = 10 ** 18
LEAST_SIZE = 2
MOST_SIZE = 10
MOST_BUNDLES = 45


def is_integer(thing):
    """Return whether thing is an integer; True and False are none."""
    return isinstance(thing, int) and not isinstance(thing, bool)


def is_amount(thing):
    """Return whether thing is an integer from 0 to 10 ** 30."""
    return is_integer(thing) and 0 <= thing <= MOST_AMOUNT


def is_count(thing):
    """Return whether thing is an integer from 1 to 10 ** 18."""
    return is_integer(thing) and 1 <= thing <= MOST_COUNT


def is_broker(thing, size):
    """Return whether thing is a broker of a cluster of this size."""
    return is_integer(thing) and 0 <= thing < size


def is_pair(thing, size):
    """Return whether thing is a tuple of two brokers of a cluster of this size."""
    return isinstance(thing, tuple) and len(thing) == 2 and all([is_broker(broker, size) for broker in thing])


def is_set(thing, size):
    """Return whether thing is a list of different brokers in ascending order."""
    if not isinstance(thing, list):
        return False
    before = -1
    for broker in thing:
        if not is_broker(broker, size) or broker <= before:
            return False
        before = broker
    return True


def are_bounds(thing):
    """Return whether thing is a list of 2 to 10 tuples (floor, ceiling)."""
    if not isinstance(thing, list) or not LEAST_SIZE <= len(thing) <= MOST_SIZE:
        return False
    return all([_is_bound(row) for row in thing])


def _is_bound(thing):
    if not isinstance(thing, tuple) or len(thing) != 2:
        return False
    floor, ceiling = thing
    return is_amount(floor) and is_amount(ceiling) and floor <= ceiling


def are_bundles(thing, size):
    """Return whether thing is a list of at most 45 tuples (first, second, partitions), no two of the same brokers."""
    if not isinstance(thing, list) or len(thing) > MOST_BUNDLES:
        return False
    if not all([_is_bundle(row, size) for row in thing]):
        return False
    return len({(row[0], row[1]) for row in thing}) == len(thing)


def _is_bundle(thing, size):
    if not isinstance(thing, tuple) or len(thing) != 3:
        return False
    first, second, partitions = thing
    return is_broker(first, size) and is_broker(second, size) and first < second and is_count(partitions)
