"""Desks [3] [4] [104]."""

import random
import unittest

from leadswitch.arcs import givers, takers
from leadswitch.assignments import first_invalid
from leadswitch.books import Book
from leadswitch.clusters import Cluster
from leadswitch.desk import Desk
from leadswitch.errors import (
    LeadError, NoBundle, NoCommand, NotLed, NotLegal, NotValid, Nothing, Stopped, TooMany, Wrong,
)
from leadswitch.fairest import fairest
from leadswitch.frozen import bar
from leadswitch.notation import show_cluster, show_leads, show_plan, show_set
from leadswitch.reach import decide
from values import any_values
from worlds import RING, all_valid, distances, great_cluster, loads_of, next_leads, some_worlds

MANY, MOST = 10 ** 18, 10 ** 30
LOW = Cluster([(1, 2), (1, 2), (1, 2)], RING)
LEADS = (1, 1, 0)
QUERIES = ("cluster", "leads", "loads", "givers", "takers", "frozen", "fairest")


def caught(call, *arguments):
    """Return what a call returns, or the class and the fields of its error."""
    try:
        return call(*arguments)
    except LeadError as error:
        return (error.__class__,) + tuple(vars(error).values())


def told(desk):
    return [desk.execute(line) for line in QUERIES]


def told_by(book):
    """Return what a Desk with this Book shall tell."""
    cluster, leads = book.cluster(), book.leads()
    fair = loads_of(cluster.size(), cluster.bundles(), fairest(cluster, leads))
    numbers = " ".join(str(number) for number in book.frozen())
    return [show_cluster(cluster), show_leads(leads), " ".join(str(load) for load in book.loads()),
            show_set(givers(cluster, leads)), show_set(takers(cluster, leads)), numbers or "-",
            f"{max(fair)} {min(fair)}"]


def answered(book, line):
    """Return what a Desk with this Book shall answer to why and to."""
    cluster, leads = book.cluster(), book.leads()
    word, *numbers = line.split(" ")
    numbers = tuple(int(number) for number in numbers if number != "-")
    if word == "why":
        if cluster.bundle_of(*numbers) is None:
            return (NoBundle,) + numbers
        found = bar(cluster, leads, cluster.bundle_of(*numbers))
        if found is None:
            return "free"
        return f"rigid {found[1]}" if found[0] == "rigid" else f"{found[0]} {show_set(found[1])}"
    broker = first_invalid(cluster, numbers)
    if broker is not None:
        return f"invalid {broker}"
    found = decide(cluster, leads, numbers)
    return f"frozen {found[1]}" if found[0] == "frozen" else f"yes {distances(cluster, leads)[numbers]}"


def some_line(chance, book):
    """Return a line with a deed and the tuple of its name and arguments."""
    rows = book.cluster().bundles()
    one, other = chance.sample(range(book.cluster().size()), 2)
    if rows and chance.random() < 0.8:
        one, other = chance.sample(chance.choice(rows)[:2], 2)
    legal = sorted(next_leads(book.cluster(), book.leads())) or [(0, 1)]
    load = book.loads()[one]
    deed = chance.choice((
        ("switch", one, other), ("switch",) + chance.choice(legal), ("undo",), ("redo",), ("undo",),
        ("play", [(chance.randint(1, 2), [chance.choice(legal) + (1,)])]), ("play", []),
        ("bound", one, max(0, load + chance.randint(-2, 0)), max(0, load + chance.randint(-1, 2))),
        ("grow", one, other, chance.randint(1, 2)), ("retire", one, other, chance.randint(1, 2)),
    ))
    if deed[0] == "play":
        return "play " + show_plan(deed[1]), deed
    return " ".join(str(part) for part in deed), deed


class DeskTest(unittest.TestCase):
    def check_none(self, desk, lines):
        before = told(desk)
        for line in lines:
            with self.subTest(line=line[:80] if isinstance(line, str) else line.__class__):
                self.assertEqual(caught(desk.execute, line), (NoCommand,))
        self.assertEqual(told(desk), before)

    def test_it_tells_what_its_book_tells(self):
        chance, words = random.Random(160), {}
        for cluster, leads in some_worlds(161, 60, most=2):
            desk, book = Desk(cluster, leads), Book(cluster, leads)
            for _ in range(20):
                line, (name, *arguments) = some_line(chance, book)
                expected = caught(getattr(book, name), *arguments)
                expected = "ok" if expected is None else expected
                if expected[0] == Wrong:
                    expected = (NoCommand,)
                words[expected if expected == "ok" else expected[0]] = True
                self.assertEqual(caught(desk.execute, line), expected)
                self.assertEqual(told(desk), told_by(book))
        self.assertLessEqual({"ok", NoBundle, NotLegal, NotLed, NotValid, Stopped, Nothing, NoCommand}, set(words))

    def test_why_and_to(self):
        chance, words = random.Random(162), {}
        for cluster, leads in some_worlds(163, 120, most=2):
            desk, book = Desk(cluster, leads), Book(cluster, leads)
            size, rows = cluster.size(), cluster.bundles()
            lines = [f"why {one} {other}" for one in range(size) for other in range(size) if one != other]
            goals = chance.sample(all_valid(cluster), min(4, len(all_valid(cluster))))
            goals += [tuple(chance.randint(0, row[2]) for row in rows) for _ in range(4)]
            lines += ["to " + show_leads(goal) for goal in goals]
            for line in lines:
                expected = answered(book, line)
                word = (line[:2], expected[0] if isinstance(expected, tuple) else expected.split(" ")[0])
                words[word] = words.get(word, 0) + 1
                self.assertEqual(caught(desk.execute, line), expected)
            self.assertEqual(told(desk), told_by(book))
        wanted = [("wh", word) for word in ("free", "rigid", "low", "high", NoBundle)]
        wanted += [("to", word) for word in ("yes", "frozen", "invalid")]
        self.assertEqual([word for word in wanted if words.get(word, 0) < 5], [])

    def test_answers(self):
        desk = Desk(LOW, LEADS)
        for line, answer in (
            ("cluster", "1-2 1-2 1-2; 0:1*1 1:2*1 0:2*1"), ("leads", "1 1 0"), ("loads", "1 1 1"), ("givers", "-"),
            ("takers", "0 1 2"), ("frozen", "0 1 2"), ("fairest", "1 1"), ("why 2 0", "low 0 1 2"),
            ("to 1 1 0", "yes 0"),
            ("to 0 0 1", "frozen 0"), ("to 1 0 0", "invalid 1"), ("to 0 1 0", "invalid 0"), ("bound 0 0 2", "ok"),
            ("to 0 0 1", "yes 3"), ("frozen", "-"), ("givers", "0"), ("why 0 1", "free"), ("bound 2 1 1", "ok"),
            ("why 2 1", "rigid 2"), ("why 0 1", "free"), ("undo", "ok"), ("undo", "ok"), ("why 2 1", "low 0 1 2"),
            ("redo", "ok"),
            ("play 1 0>1*1 1>2*1 2>0*1", "ok"), ("leads", "0 0 1"), ("undo", "ok"), ("grow 0 1 3", "ok"),
        ):
            if line == "grow 0 1 3":
                self.assertEqual(caught(desk.execute, line), (NotValid, 0))
            else:
                self.assertEqual(desk.execute(line), answer)
        empty = Desk(Cluster([(0, 4), (0, 0)], []), ())
        self.assertEqual(told(empty), ["0-4 0-0; -", "-", "0 0", "-", "0", "-", "0 0"])
        self.assertEqual([empty.execute("to -"), empty.execute("play -"), empty.execute("grow 0 1 3"),
                          empty.execute("leads")],
                         ["yes 0", "ok", "ok", "3"])
        high = Desk(Cluster([(0, 1)] * 3, RING), LEADS)
        self.assertEqual([high.execute("why 0 1"), high.execute("givers"), high.execute("takers")],
                         ["high 0 1 2", "0 1 2", "-"])

    def test_the_greatest_numbers(self):
        cluster, leads = great_cluster()
        desk = Desk(cluster, leads)
        most = " ".join(str(row[2]) for row in cluster.bundles())
        self.assertEqual(desk.execute(f"to {most}"),
                         f"yes {sum(row[2] - many for row, many in zip(cluster.bundles(), leads))}")
        self.assertEqual(desk.execute(f"bound 3 0 {MOST}"), "ok")
        self.assertEqual(desk.execute(f"play {10 ** 17} 1>0*9 1>0*1"), "ok")
        self.assertEqual(desk.execute("leads").split(" ")[0], str(MANY))
        self.assertEqual(caught(desk.execute, "grow 0 1 1"), (TooMany, MANY))
        self.assertEqual(desk.execute(f"retire 0 1 {MANY}"), "ok")
        self.assertEqual(desk.execute(f"grow 1 0 {MANY}"), "ok")
        self.check_none(desk, (f"bound 3 0 {MOST + 1}", f"grow 0 1 {MANY + 1}", f"retire 0 1 {MANY + 1}", "grow 0 1 0",
                               "retire 0 1 0", f"bound 3 0 {'9' * 40}", f"bound 3 0 {'9' * 41}",
                               f"grow 0 1 {'1' * 5000}",
                               f"to {most} 0", f"to {most[:-1]}9"))

    def test_errors_of_the_book(self):
        desk = Desk(Cluster([(3, 9), (3, 9), (0, 9)], [(0, 1, 8)]), (4,))
        for line, error in (
            ("undo", (Nothing,)), ("redo", (Nothing,)), ("switch 0 2", (NoBundle, 0, 2)),
            ("switch 2 0", (NoBundle, 2, 0)),
            ("play 9 0>1*1", (Stopped, 0, 1, 0)), ("bound 0 5 9", (NotValid, 0)), ("bound 1 0 3", (NotValid, 1)),
            (f"grow 0 1 {MANY}", (TooMany, MANY)), ("grow 0 1 6", (NotValid, 0)), ("grow 2 0 10", (NotValid, 2)),
            ("retire 2 0 1", (NoBundle, 2, 0)), ("retire 1 0 5", (NotLed, 1)), ("retire 1 0 4", (NotValid, 1)),
            ("why 0 2", (NoBundle, 0, 2)), ("why 2 1", (NoBundle, 2, 1)),
        ):
            before = told(desk)
            self.assertEqual(caught(desk.execute, line), error)
            self.assertEqual(told(desk), before)
        self.assertEqual([desk.execute("switch 0 1"), caught(desk.execute, "switch 0 1")], ["ok", (NotLegal,)])
        for _ in range(199):
            self.assertEqual(desk.execute("play -"), "ok")
        for line in ("play -", "switch 1 0", "bound 0 3 9", "grow 0 1 1", "retire 1 0 1"):
            self.assertEqual(caught(desk.execute, line), (TooMany, 200))
        self.assertEqual(caught(desk.execute, "switch 0 1"), (NotLegal,))
        self.assertEqual(caught(desk.execute, "switch 0 0"), (NoCommand,))
        self.assertEqual([desk.execute("undo"), desk.execute("switch 1 0"), caught(desk.execute, "redo")],
                         ["ok", "ok", (Nothing,)])

    def test_lines_that_are_none(self):
        self.check_none(Desk(LOW, LEADS), (
            "", " ", "\n", "nothing", "Undo", "UNDO", "undo ", " undo", "undo\n", "undo 1", "undo -", "redo ", "redo 0",
            "switch", "switch ", "switch 0", "switch 0 1 ", "switch  0 1", "switch 0  1", " switch 0 1", "switch 0 1 1",
            "switch 0 1\n", "switch 00 1", "switch 0 01", "switch 0 3", "switch 3 0", "switch 0 0", "switch -1 0",
            "switch 0 x",
            "switch 0,1", "switch\n0 1", "switch (0, 1)", "switch 0>1", f"switch 0 {'1' * 41}", f"switch 0 {10 ** 39}",
            "bound", "bound 0 1", "bound 0 2 1", "bound 3 1 2", "bound 0 1 2 3", "bound 0 -1 2",
            f"bound 0 1 {MOST + 1}",
            "bound 0 01 2", "bound 0 1-2", "grow 0 1", "grow 0 1 0", "grow 0 0 1", "grow 0 3 1", f"grow 0 1 {MANY + 1}",
            "grow 0 1 +1", "grow 0 1 1 ", "retire 0 1 0", "retire 1 1 1", "retire 5 1 1", "retire 0 1",
            "retire 0 1 1 1",
            "play", "play ", "play  1 0>1*1", "play 1 0>1*1 ", "play 1 0>3*1", "play 1 0>0*1", "play 0 0>1*1", "play 1",
            "play 1 0>1*1;", "play 1 0>1*1;1 0>1*1", "play - ", "play -\n", "play 1 0>1*0", "Play -", "play - -",
            "cluster ", "cluster 1", "leads ", "leads 0", "loads\n", "givers 0", "takers 0", "frozen 0", "fairest 0",
            "fairest ",
            "why", "why ", "why 0", "why 0 0", "why 0 3", "why 3 3", "why 0 1 2", "why 0  1", "why 0 01", "why -",
            "why 0 1 ",
            "to", "to ", "to 1 1", "to 1 1 0 0", "to 2 1 0", "to 1 1 -1", "to -", "to 1  1 0", "to 1 1 0 ", "to 1 1 00",
            "to 1,1,0", "to 1 1 0\n", f"to 1 1 {MANY}", f"to 1 1 {'1' * 41}", "to (1, 1, 0)", "to 1 1 0; 1 1 0",
            "show", "len", "why free", "switch 0 1; switch 1 0", "undo undo", "-", "ok",
        ))

    def test_plans_and_leads_of_the_present_cluster(self):
        desk = Desk(Cluster([(0, 9)] * 3, [(0, 1, 5), (1, 2, 5)]), (2, 2))
        self.check_none(desk, ("play 1 0>2*1", "to 1 1 1", "to 1"))
        self.assertEqual(desk.execute("grow 2 0 3"), "ok")
        self.check_none(desk, ("play 1 3>2*1", "to 1 1"))
        self.assertEqual([desk.execute("play 1 2>0*1"), desk.execute("to 2 2 0"), desk.execute("to 2 2 2")],
                         ["ok", "yes 1", "yes 1"])
        self.assertEqual([desk.execute("retire 1 0 3"), desk.execute("retire 0 1 2"), desk.execute("leads")],
                         ["ok", "ok", "2 1"])
        self.check_none(desk, ("play 1 0>1*1", "to 2 2 1"))
        self.assertEqual([desk.execute("frozen"), desk.execute("bound 0 1 1"), desk.execute("frozen")],
                         ["-", "ok", "1"])

    def test_any_values(self):
        desk = Desk(LOW, LEADS)
        self.check_none(desk, any_values() + [b"undo", ["undo"], ("undo",), ["switch", 0, 1], {"undo": 1}])
        for thing in any_values():
            self.assertEqual(caught(Desk, thing, LEADS), (Wrong, 0))
            self.assertEqual(caught(Desk, thing, thing), (Wrong, 0))
            self.assertEqual(caught(Desk, LOW, thing), (Wrong, 1))
        for leads in ((1, 1), [1, 1, 0], (1, 0, 0), (1, 1, 2), (1, 1, False)):
            self.assertEqual(caught(Desk, LOW, leads), (Wrong, 1))

    def test_invalid_whatever_bundles_are_frozen(self):
        desk = Desk(Cluster([(1, 2), (1, 2), (1, 2), (2, 2), (0, 9)], RING + [(2, 3, 2), (3, 4, 4)]), (1, 1, 0, 0, 0))
        self.assertEqual(desk.execute("to 0 0 1 0 0"), "frozen 0")
        self.assertEqual(desk.execute("to 0 0 1 0 1"), "invalid 3")
        self.assertEqual(desk.execute("to 0 1 0 0 1"), "invalid 0")

    def test_lines_stay_and_desks_are_independent(self):
        one, other = Desk(LOW, LEADS), Desk(LOW, LEADS)
        before = told(other)
        one.execute("bound 0 0 2")
        one.execute("switch 0 1")
        self.assertEqual(told(other), before)
        for _ in range(2):
            self.assertEqual([one.execute("to 1 1 0"), one.execute("why 0 1"), one.execute("leads")],
                             ["yes 1", "free", "0 1 0"])
        self.assertEqual(LOW, Cluster([(1, 2)] * 3, RING))


if __name__ == "__main__":
    unittest.main()
