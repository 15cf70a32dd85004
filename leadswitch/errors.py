"""The errors of the package [4] [20]."""


class LeadError(ValueError):
    """Any error of the package; it may be constructed from any value itself."""


# The errors below build no text from what they are given: it may be of any kind, also one that cannot be shown.


class Wrong(LeadError):
    """The argument at this place is not as described."""

    def __init__(self, place):
        self.place = place


class NotLegal(LeadError):
    """A switch is not legal."""


class Stopped(LeadError):
    """A plan has a switch that is not legal at its time, first in this run of this turn of this block."""

    def __init__(self, block, turn, run):
        self.block = block
        self.turn = turn
        self.run = run


class NoBundle(LeadError):
    """Two brokers have no bundle."""

    def __init__(self, one, other):
        self.one = one
        self.other = other


class Frozen(LeadError):
    """A frozen bundle would have to get other leads."""

    def __init__(self, bundle):
        self.bundle = bundle


class NotValid(LeadError):
    """The load of a broker would not be from its floor to its ceiling."""

    def __init__(self, broker):
        self.broker = broker


class NotLed(LeadError):
    """A broker leads too few partitions of a bundle."""

    def __init__(self, broker):
        self.broker = broker


class Impossible(LeadError):
    """No leads are possible for a record, up to this index."""

    def __init__(self, at):
        self.at = at


class TooMany(LeadError):
    """There are more than a limit allows."""

    def __init__(self, limit):
        self.limit = limit


class Nothing(LeadError):
    """There is nothing to take back or to do again."""


class NoText(LeadError):
    """A value is no text in the notation."""


class NoCommand(LeadError):
    """A value is no line that a desk executes."""
