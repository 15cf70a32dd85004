"""Desks that keep a Book and execute lines [104]."""

from leadswitch.arcs import givers, takers
from leadswitch.assignments import are_leads, first_invalid, loads
from leadswitch.books import Book
from leadswitch.errors import Frozen, NoBundle, NoCommand, NoText, Wrong
from leadswitch.fairest import fairest
from leadswitch.fewest import fewest_switches
from leadswitch.frozen import bar
from leadswitch.kinds import is_broker
from leadswitch.notation import read_integer, read_leads, read_plan, show_cluster, show_leads, show_numbers, show_set

# How many integers follow these words.
INTEGERS = {"switch": 2, "bound": 3, "grow": 3, "retire": 3, "why": 2}


class Desk:
    """A Book of a Cluster and valid leads of it."""

    def __init__(self, cluster, leads):
        self._book = Book(cluster, leads)

    def execute(self, line):
        """Execute a line, any value, and return what it tells."""
        if not isinstance(line, str):
            raise NoCommand()
        word, blank, rest = line.partition(" ")
        if blank == "":
            return self._tell(word)
        if word == "play":
            self._play(rest)
            return "ok"
        if word == "to":
            return self._to(rest)
        numbers = [read_integer(each) for each in rest.split(" ")]
        if any([number is None for number in numbers]) or INTEGERS.get(word) != len(numbers):
            raise NoCommand()
        if word == "why":
            return self._why(numbers[0], numbers[1])
        self._change(word, numbers)
        return "ok"

    def _tell(self, word):
        """Return what a line of one word tells."""
        cluster, leads = self._book.cluster(), self._book.leads()
        if word == "undo":
            self._book.undo()
            return "ok"
        if word == "redo":
            self._book.redo()
            return "ok"
        if word == "cluster":
            return show_cluster(cluster)
        if word == "leads":
            return show_leads(leads)
        if word == "loads":
            return show_numbers(self._book.loads())
        if word == "givers":
            return show_set(givers(cluster, leads))
        if word == "takers":
            return show_set(takers(cluster, leads))
        if word == "frozen":
            return show_numbers(self._book.frozen())
        if word == "fairest":
            fair = loads(cluster, fairest(cluster, leads))
            return f"{max(fair)} {min(fair)}"
        raise NoCommand()

    def _play(self, text):
        try:
            self._book.play(read_plan(text))
        except (NoText, Wrong):
            raise NoCommand()

    def _change(self, word, numbers):
        """Do a deed with these integers."""
        try:
            if word == "switch":
                self._book.switch(numbers[0], numbers[1])
            if word == "bound":
                self._book.bound(numbers[0], numbers[1], numbers[2])
            if word == "grow":
                self._book.grow(numbers[0], numbers[1], numbers[2])
            if word == "retire":
                self._book.retire(numbers[0], numbers[1], numbers[2])
        except Wrong:
            raise NoCommand()

    def _why(self, one, other):
        """Return what bars the bundle of two brokers."""
        cluster, leads = self._book.cluster(), self._book.leads()
        if not is_broker(one, cluster.size()) or not is_broker(other, cluster.size()) or one == other:
            raise NoCommand()
        bundle = cluster.bundle_of(one, other)
        if bundle is None:
            raise NoBundle(one, other)
        found = bar(cluster, leads, bundle)
        if found is None:
            return "free"
        if found[0] == "rigid":
            return f"rigid {found[1]}"
        return f"{found[0]} {show_set(found[1])}"

    def _to(self, text):
        """Return how many switches lead to the leads of a text, or what is in the way."""
        cluster = self._book.cluster()
        try:
            goal = read_leads(text)
        except NoText:
            raise NoCommand()
        if not are_leads(cluster, goal):
            raise NoCommand()
        broker = first_invalid(cluster, goal)
        if broker is not None:
            return f"invalid {broker}"
        try:
            many = fewest_switches(cluster, self._book.leads(), goal)
        except Frozen as error:
            return f"frozen {error.bundle}"
        return f"yes {many}"
