"""Clusters, leads, plans and sets as texts [102] [103]."""

from leadswitch.clusters import Cluster
from leadswitch.errors import NoText
from leadswitch.kinds import MOST_BUNDLES, MOST_COUNT, MOST_SIZE, are_bounds, are_bundles
from leadswitch.plans import is_plan_of

MOST_DIGITS = 40
EMPTY = "-"


def show_cluster(cluster):
    """Return the text of a Cluster."""
    bounds = " ".join([f"{floor}-{ceiling}" for floor, ceiling in cluster.bounds()])
    bundles = " ".join([f"{first}:{second}*{partitions}" for first, second, partitions in cluster.bundles()])
    return f"{bounds}; {bundles or EMPTY}"


def show_leads(leads):
    """Return the text of leads."""
    return show_numbers(leads)


def show_set(members):
    """Return the text of a set."""
    return show_numbers(members)


def show_numbers(numbers):
    """Return the text of integers, one after another."""
    return " ".join([str(number) for number in numbers]) or EMPTY


def show_plan(plan):
    """Return the text of a plan."""
    return "; ".join([_shown_block(turns, runs) for turns, runs in plan]) or EMPTY


def _shown_block(turns, runs):
    return " ".join([str(turns)] + [f"{one}>{other}*{times}" for one, other, times in runs])


def read_cluster(text):
    """Return the Cluster that a text, any value, writes."""
    groups = _groups(text)
    if len(groups) != 2:
        raise NoText()
    bounds = [_read_tuple(word, "-") for word in groups[0].split(" ")]
    bundles = [] if groups[1] == EMPTY else [_read_tuple(word, ":*") for word in groups[1].split(" ")]
    if not are_bounds(bounds) or not are_bundles(bundles, len(bounds)):
        raise NoText()
    return Cluster(bounds, bundles)


def _groups(text):
    """Return the groups of a text, any value."""
    if not isinstance(text, str):
        raise NoText()
    return text.split("; ")


def read_leads(text):
    """Return the tuple of integers that a text, any value, writes."""
    if _groups(text) == [EMPTY]:
        return ()
    numbers = [read_integer(word) for word in text.split(" ")]
    if len(numbers) > MOST_BUNDLES or any([number is None or number > MOST_COUNT for number in numbers]):
        raise NoText()
    return tuple(numbers)


def read_plan(text):
    """Return the plan that a text, any value, writes."""
    groups = _groups(text)
    if groups == [EMPTY]:
        return []
    plan = [_read_block(group.split(" ")) for group in groups]
    brokers = list(range(MOST_SIZE))
    if not is_plan_of({(one, other): True for one in brokers for other in brokers if one != other}, plan):
        raise NoText()
    return plan


def _read_block(words):
    return (read_integer(words[0]), [_read_tuple(word, ">*") for word in words[1:]])


def _read_tuple(word, signs):
    """Return the tuple of the integers that a word writes with these signs between them; None where it writes none."""
    found = []
    for sign in signs:
        part, _, word = word.partition(sign)
        found.append(read_integer(part))
    return tuple(found + [read_integer(word)])


def read_integer(word):
    """Return the integer that a word writes with at most 40 digits, or None."""
    if not word.isdigit() or not word.isascii() or len(word) > MOST_DIGITS:
        return None
    if word[0] == "0" and word != "0":
        return None
    return int(word)
