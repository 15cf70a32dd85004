"""Books of clusters that change [3] [4] [100] [101]."""

import copy
import random
import unittest

from leadswitch.books import Book
from leadswitch.clusters import Cluster
from leadswitch.errors import LeadError, NoBundle, NotLed, NotLegal, NotValid, Nothing, Stopped, TooMany, Wrong
from leadswitch.frozen import frozen
from leadswitch.plans import play
from values import any_values, no_integers
from worlds import (
    RING, anew, are_valid, distances, great_cluster, great_ring, loads_of, next_leads, played, some_worlds,
)

MANY, MOST = 10 ** 18, 10 ** 30
LOW = Cluster([(1, 2), (1, 2), (1, 2)], RING)
LEADS = (1, 1, 0)


def fields(error):
    """Return the class of an error and its fields."""
    return (error.__class__,) + tuple(vars(error).values())


def caught(call, *arguments):
    """Return what a call returns, or the class and the fields of its error."""
    try:
        return call(*arguments)
    except LeadError as error:
        return fields(error)


class Ledger:
    """What a Book is by the words of [100] and [101], kept as plain lists of all that was."""

    def __init__(self, cluster, leads):
        self.past = [(cluster.bounds(), cluster.bundles(), list(leads))]
        self.done = []
        self.later = []

    def size(self):
        return len(self.past[0][0])

    def is_broker(self, thing):
        return isinstance(thing, int) and not isinstance(thing, bool) and 0 <= thing < self.size()

    def place(self, one, other):
        """Return the number of the bundle of two brokers, or None."""
        rows = self.past[-1][1]
        return next((at for at, row in enumerate(rows) if sorted(row[:2]) == sorted((one, other))), None)

    def deed(self, name, *arguments):
        """Do a deed, and return None or the error."""
        found = getattr(self, name)(*arguments)
        if isinstance(found[0], type):
            return found
        if len(self.done) == 200:
            return (TooMany, 200)
        self.past.append(found)
        self.done.append((name,) + copy.deepcopy(arguments))
        self.later = []
        return None

    def wrong_place(self, one, other, many=1):
        if not self.is_broker(one):
            return 0
        if not self.is_broker(other) or one == other:
            return 1
        return None if isinstance(many, int) and not isinstance(many, bool) and 1 <= many <= MANY else 2

    def switch(self, one, other):
        if self.wrong_place(one, other) is not None:
            return (Wrong, self.wrong_place(one, other))
        bounds, rows, leads = self.past[-1]
        if self.place(one, other) is None:
            return (NoBundle, one, other)
        after = next_leads(Cluster(bounds, rows), tuple(leads))
        if (one, other) not in after:
            return (NotLegal,)
        return bounds, rows, list(after[(one, other)])

    def play(self, plan):
        bounds, rows, leads = self.past[-1]
        if any(self.place(one, other) is None for _, runs in plan for one, other, _ in runs):
            return (Wrong, 0)
        after = played(Cluster(bounds, rows), tuple(leads), plan)
        if after[:1] == ("stopped",):
            return (Stopped,) + after[1:]
        return bounds, rows, list(after)

    def bound(self, broker, floor, ceiling):
        amounts = [isinstance(thing, int) and not isinstance(thing, bool) and 0 <= thing <= MOST
                   for thing in (floor, ceiling)]
        if not self.is_broker(broker):
            return (Wrong, 0)
        if not amounts[0]:
            return (Wrong, 1)
        if not amounts[1] or floor > ceiling:
            return (Wrong, 2)
        bounds, rows, leads = self.past[-1]
        if not floor <= loads_of(self.size(), rows, leads)[broker] <= ceiling:
            return (NotValid, broker)
        return bounds[:broker] + [(floor, ceiling)] + bounds[broker + 1:], rows, leads

    def grow(self, one, other, many):
        if self.wrong_place(one, other, many) is not None:
            return (Wrong, self.wrong_place(one, other, many))
        bounds, rows, leads = self.past[-1]
        rows, leads, at = list(rows), list(leads), self.place(one, other)
        if at is None:
            at = len(rows)
            rows.append((min(one, other), max(one, other), 0))
            leads.append(0)
        rows[at] = rows[at][:2] + (rows[at][2] + many,)
        leads[at] += many * (one < other)
        if rows[at][2] > MANY:
            return (TooMany, MANY)
        if loads_of(self.size(), rows, leads)[one] > bounds[one][1]:
            return (NotValid, one)
        return bounds, rows, leads

    def retire(self, one, other, many):
        if self.wrong_place(one, other, many) is not None:
            return (Wrong, self.wrong_place(one, other, many))
        bounds, rows, leads = self.past[-1]
        rows, leads, at = list(rows), list(leads), self.place(one, other)
        if at is None:
            return (NoBundle, one, other)
        if (leads[at] if one < other else rows[at][2] - leads[at]) < many:
            return (NotLed, one)
        if loads_of(self.size(), rows, leads)[one] - many < bounds[one][0]:
            return (NotValid, one)
        rows[at] = rows[at][:2] + (rows[at][2] - many,)
        leads[at] -= many * (one < other)
        if rows[at][2] == 0:
            del rows[at], leads[at]
        return bounds, rows, leads

    def undo(self):
        if not self.done:
            return (Nothing,)
        self.later.append((self.done.pop(), self.past.pop()))
        return None

    def redo(self):
        if not self.later:
            return (Nothing,)
        deed, state = self.later.pop()
        self.done.append(deed)
        self.past.append(state)
        return None

    def still(self, state):
        """Return the pairs of brokers of the frozen bundles at a time."""
        bounds, rows, leads = state
        return [rows[at][:2] for at in frozen(Cluster(bounds, rows), tuple(leads))]

    def since(self, pair):
        if pair not in self.still(self.past[-1]):
            return None
        return min(at for at in range(len(self.past)) if all(pair in self.still(state) for state in self.past[at:]))

    def back(self):
        if self.past[0][:2] != self.past[-1][:2]:
            return None
        bounds, rows, leads = self.past[-1]
        return distances(Cluster(bounds, rows), tuple(leads)).get(tuple(self.past[0][2]))

    def told(self):
        bounds, rows, leads = self.past[-1]
        numbers = [at for at, row in enumerate(rows) if row[:2] in self.still(self.past[-1])]
        since = [self.since(row[:2]) for row in rows]
        return [Cluster(bounds, rows), tuple(leads), loads_of(self.size(), rows, leads), numbers, since, self.done,
                self.back(), len(self.done)]


def told(book):
    """Return all that a Book tells."""
    rows = book.cluster().bundles()
    since = [book.frozen_since(one, other) for one, other, _ in rows]
    assert since == [book.frozen_since(other, one) for one, other, _ in rows]
    return [book.cluster(), book.leads(), book.loads(), book.frozen(), since, book.deeds(), book.way_back(), len(book)]


def some_deed(chance, book):
    """Return a tuple of the name of a deed and its arguments, most of which can be done."""
    brokers = list(range(book.cluster().size()))
    one, other = chance.sample(brokers, 2)
    rows = book.cluster().bundles()
    if rows and chance.random() < 0.8:
        one, other = chance.sample(chance.choice(rows)[:2], 2)
    load = book.loads()[one]
    legal = sorted(next_leads(book.cluster(), book.leads()))
    runs = [chance.choice(legal or [(0, 1)]) + (1,) for _ in range(chance.randint(1, 2))]
    return chance.choice((
        ("switch",) + chance.choice(legal or [(0, 1)]), ("switch", one, other),
        ("switch",) + chance.choice(legal or [(1, 0)]),
        ("play", [(chance.randint(1, 2), runs)]), ("play", [(1, runs[:1])]), ("play", []),
        ("bound", one, max(0, load - chance.randint(0, 2)), load + chance.randint(0, 2)), ("bound", one, load, load),
        ("bound", one, load + chance.randint(-1, 1), load + chance.randint(-1, 1)),
        ("grow", one, other, chance.randint(1, 2)), ("retire", one, other, 1), ("retire", one, other, 2),
        ("undo",), ("undo",), ("redo",),
    ))


class AgainstTheWordsTest(unittest.TestCase):
    def test_books_and_ledgers(self):
        chance, words = random.Random(140), {}
        for cluster, leads in some_worlds(141, 60, sizes=(2, 3, 4), most=2):
            book, ledger = Book(cluster, leads), Ledger(cluster, leads)
            for _ in range(25):
                name, *arguments = some_deed(chance, book)
                before = told(book)
                if name in ("undo", "redo"):
                    expected = getattr(ledger, name)()
                else:
                    expected = ledger.deed(name, *arguments)
                self.assertEqual(caught(getattr(book, name), *arguments), expected, (name, arguments))
                self.assertEqual(told(book), ledger.told())
                self.assertTrue(are_valid(book.cluster(), book.leads()))
                if expected is not None:
                    self.assertEqual(told(book), before)
                word = (name, expected and expected[0])
                words[word] = words.get(word, 0) + 1
        wanted = [(name, None) for name in ("switch", "play", "bound", "grow", "retire", "undo", "redo")]
        wanted += [("switch", NotLegal), ("switch", NoBundle), ("play", Stopped), ("bound", NotValid),
                   ("grow", NotValid),
                   ("retire", NotLed), ("retire", NotValid), ("retire", NoBundle), ("undo", Nothing), ("redo", Nothing)]
        self.assertEqual([word for word in wanted if words.get(word, 0) < 5], [])

    def test_what_can_be_done_again_after_an_error(self):
        chance = random.Random(142)
        for cluster, leads in some_worlds(143, 30, most=2):
            book, ledger = Book(cluster, leads), Ledger(cluster, leads)
            for _ in range(12):
                name, *arguments = some_deed(chance, book)
                if name not in ("undo", "redo"):
                    self.assertEqual(caught(getattr(book, name), *arguments), ledger.deed(name, *arguments))
            many = len(book)
            for _ in range(many):
                book.undo()
            for deed in (("switch", 0, 0), ("bound", 0, 1, 0), ("grow", 0, 1, 0), ("retire", 0, 1, MANY),
                         ("play", None),
                         ("undo",), ("grow", 0, 1, MANY), ("bound", 0, 10 ** 29, 10 ** 30)):
                with self.assertRaises(LeadError):
                    getattr(book, deed[0])(*deed[1:])
            for _ in range(many):
                book.redo()
            self.assertEqual(told(book), ledger.told())


class ConstructorTest(unittest.TestCase):
    def test_wrong(self):
        cluster = Cluster([(1, 2), (1, 7), (4, 4)], [(0, 1, 3), (1, 2, 4)])
        for thing in any_values():
            self.assertEqual(caught(Book, thing, (1, 0)), (Wrong, 0))
            self.assertEqual(caught(Book, thing, thing), (Wrong, 0))
            self.assertEqual(caught(Book, cluster, thing), (Wrong, 1))
        for thing in no_integers():
            self.assertEqual(caught(Book, cluster, (1, thing)), (Wrong, 1))
        self.assertIsInstance(Book(cluster, (1, 0)), Book)
        for leads in ([1, 0], (1,), (1, 0, 0), (3, 0), (0, 0), (1, 1), (1, -1), (4, 0), (True, 0), (1, False)):
            self.assertEqual(caught(Book, cluster, leads), (Wrong, 1))
        self.assertEqual(caught(Book, [(0, 1), (0, 1)], ()), (Wrong, 0))
        self.assertEqual(told(Book(Cluster([(0, 0), (0, 5)], []), ()))[1:], [(), [0, 0], [], [], [], 0, 0])

    def test_what_it_begins_with(self):
        self.assertEqual(told(Book(LOW, LEADS)), [LOW, LEADS, [1, 1, 1], [0, 1, 2], [0, 0, 0], [], 0, 0])
        for cluster in anew(LOW):
            self.assertEqual(told(Book(cluster, LEADS)), told(Book(LOW, LEADS)))


class WrongTest(unittest.TestCase):
    def check(self, name, arguments, kinds):
        """Check the deed with values of all kinds at each place; kinds tell of an integer whether it is right there."""
        book = Book(Cluster([(0, MOST)] * 3, [(0, 1, 5), (1, 2, 5)]), (2, 2))
        book.grow(0, 1, 1)
        book.undo()
        before = told(book)
        for place, kind in enumerate(kinds):
            for thing in any_values():
                is_integer = isinstance(thing, int) and not isinstance(thing, bool)
                if is_integer and kind(thing):
                    continue
                for later in (list(arguments[place + 1:]), [thing] * len(arguments[place + 1:])):
                    asked = list(arguments[:place]) + [thing] + later
                    self.assertEqual(caught(getattr(book, name), *asked), (Wrong, place))
        self.assertEqual(told(book), before)
        book.redo()
        self.assertEqual(book.deeds(), [("grow", 0, 1, 1)])

    def test_any_values_at_each_place(self):
        def is_broker(thing):
            return 0 <= thing < 3

        def is_amount(thing):
            return 0 <= thing <= MOST

        def is_count(thing):
            return 1 <= thing <= MANY

        self.check("switch", (0, 1), (is_broker, lambda thing: is_broker(thing) and thing != 0))
        self.check("bound", (0, 7, 9), (is_broker, is_amount, lambda thing: is_amount(thing) and thing >= 7))
        for name in ("grow", "retire"):
            self.check(name, (0, 1, 1), (is_broker, lambda thing: is_broker(thing) and thing != 0, is_count))

    def test_plans(self):
        book = Book(Cluster([(0, MOST)] * 3, [(0, 1, 5), (1, 2, 5)]), (2, 2))
        for thing in any_values():
            if thing != [] or not isinstance(thing, list):
                self.assertEqual(caught(book.play, thing), (Wrong, 0))
                self.assertEqual(caught(book.play, [(1, [thing])]), (Wrong, 0))
                self.assertEqual(caught(book.play, [thing]), (Wrong, 0))
        for plan in ([(1, [(0, 2, 1)])], [(1, [])], [(0, [(0, 1, 1)])], [(1, [(0, 1, 1)])] * 401, ((1, [(0, 1, 1)]),)):
            self.assertEqual(caught(book.play, plan), (Wrong, 0))
        self.assertEqual([len(book), book.deeds()], [0, []])
        # A plan of the present cluster: bundles may have come since, or have gone.
        book.grow(0, 2, 3)
        self.assertIsNone(book.play([(1, [(0, 2, 1)])]))
        book.retire(0, 2, 2)
        book.retire(2, 0, 1)
        self.assertEqual(caught(book.play, [(1, [(0, 2, 1)])]), (Wrong, 0))

    def test_equal_brokers(self):
        book = Book(LOW, LEADS)
        for one in range(3):
            self.assertEqual(caught(book.switch, one, one), (Wrong, 1))
            self.assertEqual(caught(book.grow, one, one, 0), (Wrong, 1))
            self.assertEqual(caught(book.retire, one, one, 0), (Wrong, 1))
        self.assertEqual(caught(book.switch, 3, 3), (Wrong, 0))
        self.assertEqual(caught(book.switch, True, 0), (Wrong, 0))
        self.assertEqual(caught(book.switch, 0, True), (Wrong, 1))
        self.assertEqual(caught(book.bound, 0, 2, 1), (Wrong, 2))
        self.assertEqual(caught(book.bound, 0, -1, 10 ** 31), (Wrong, 1))
        self.assertEqual(caught(book.bound, 0, 0, 10 ** 30 + 1), (Wrong, 2))


class DeedsTest(unittest.TestCase):
    def test_too_many_before_not_valid(self):
        cluster = Cluster([(0, MANY), (0, MOST)], [(0, 1, MANY)])
        book = Book(cluster, (MANY,))
        self.assertEqual(caught(book.grow, 0, 1, 1), (TooMany, MANY))
        self.assertEqual(caught(book.grow, 1, 0, 1), (TooMany, MANY))
        book.retire(0, 1, 5)
        self.assertEqual(caught(book.grow, 0, 1, 6), (TooMany, MANY))
        book.grow(0, 1, 5)
        book.retire(0, 1, 5)
        book.bound(0, 0, MANY - 1)
        self.assertEqual(caught(book.grow, 0, 1, 5), (NotValid, 0))
        book.grow(1, 0, 5)
        self.assertEqual([book.leads(), book.cluster().bundles()], [(MANY - 5,), [(0, 1, MANY)]])

    def test_no_bundle_not_led_not_valid(self):
        book = Book(Cluster([(3, 9), (3, 9), (0, 9)], [(0, 1, 8)]), (4,))
        self.assertEqual(caught(book.retire, 0, 2, 9), (NoBundle, 0, 2))
        self.assertEqual(caught(book.retire, 2, 0, 9), (NoBundle, 2, 0))
        self.assertEqual(caught(book.retire, 1, 0, 5), (NotLed, 1))
        self.assertEqual(caught(book.retire, 1, 0, 4), (NotValid, 1))
        self.assertIsNone(book.retire(1, 0, 1))
        self.assertEqual(caught(book.retire, 1, 0, 1), (NotValid, 1))
        self.assertEqual([book.leads(), book.loads()], [(4,), [4, 3, 0]])

    def test_errors_of_switch_play_and_bound(self):
        book = Book(Cluster([(4, 9), (3, 9), (0, 9)], [(0, 1, 8)]), (4,))
        self.assertEqual(caught(book.switch, 0, 2), (NoBundle, 0, 2))
        self.assertEqual(caught(book.switch, 2, 0), (NoBundle, 2, 0))
        self.assertEqual(caught(book.switch, 0, 1), (NotLegal,))
        self.assertEqual(caught(book.play, [(1, [(1, 0, 1)]), (3, [(0, 1, 1)])]), (Stopped, 1, 1, 0))
        self.assertEqual(caught(book.bound, 1, 5, 9), (NotValid, 1))
        self.assertEqual(caught(book.bound, 1, 0, 3), (NotValid, 1))
        self.assertEqual(told(book)[1:3], [(4,), [4, 4, 0]])
        self.assertIsNone(book.bound(1, 4, 4))
        self.assertEqual(book.cluster().bounds(), [(4, 9), (4, 4), (0, 9)])

    def test_deeds_that_change_nothing(self):
        book = Book(LOW, LEADS)
        book.bound(0, 1, 2)
        book.play([])
        self.assertEqual([len(book), book.deeds(), book.cluster(), book.leads()],
                         [2, [("bound", 0, 1, 2), ("play", [])], LOW, LEADS])
        book.undo()
        book.undo()
        self.assertEqual(caught(book.undo), (Nothing,))
        book.redo()
        self.assertEqual(book.deeds(), [("bound", 0, 1, 2)])

    def test_retired_to_nothing_and_back_again(self):
        cluster = Cluster([(0, 99)] * 4, [(0, 1, 2), (0, 2, 3), (1, 3, 4), (2, 3, 5)])
        book = Book(cluster, (1, 2, 3, 4))
        book.retire(0, 2, 2)
        self.assertEqual([book.cluster().bundles()[1], book.leads()], [(0, 2, 1), (1, 0, 3, 4)])
        book.retire(2, 0, 1)
        self.assertEqual([book.cluster().bundles(), book.leads()], [[(0, 1, 2), (1, 3, 4), (2, 3, 5)], (1, 3, 4)])
        self.assertEqual([book.cluster().bundle_of(2, 3), book.cluster().bundle_of(0, 2)], [2, None])
        self.assertIsNone(book.way_back())
        book.grow(2, 0, 3)
        self.assertEqual([book.cluster().bundles()[3], book.leads()], [(0, 2, 3), (1, 3, 4, 0)])
        # The same bundles in another order: another Cluster.
        self.assertIsNone(book.way_back())
        for _ in range(3):
            book.undo()
        self.assertEqual([book.cluster(), book.leads(), book.way_back()], [cluster, (1, 2, 3, 4), 0])
        last = Book(cluster, (1, 2, 3, 0))
        last.retire(3, 2, 5)
        last.grow(3, 2, 4)
        self.assertIsNone(last.way_back())
        last.grow(2, 3, 1)
        self.assertEqual([last.cluster(), last.leads(), last.way_back()], [cluster, (1, 2, 3, 1), 1])

    def test_grow_in_both_directions(self):
        book = Book(Cluster([(0, 9)] * 3, []), ())
        book.grow(2, 1, 3)
        book.grow(0, 2, 4)
        book.grow(1, 2, 2)
        book.grow(2, 0, 1)
        self.assertEqual([book.cluster().bundles(), book.leads(), book.loads()],
                         [[(1, 2, 5), (0, 2, 5)], (2, 4), [4, 2, 4]])
        self.assertEqual(book.deeds(), [("grow", 2, 1, 3), ("grow", 0, 2, 4), ("grow", 1, 2, 2), ("grow", 2, 0, 1)])
        self.assertEqual(caught(book.grow, 0, 1, 6), (NotValid, 0))

    def test_the_greatest_counts(self):
        cluster, leads = great_cluster()
        book = Book(cluster, leads)
        plan = [(10 ** 17, [(1, 0, 9), (1, 0, 1)])]
        book.play(plan)
        self.assertEqual(book.leads(), play(cluster, leads, plan))
        self.assertEqual(book.way_back(), MANY)
        book.bound(3, 0, MOST)
        book.retire(0, 1, MANY)
        self.assertEqual([len(book.cluster()), book.way_back(), len(book.leads())], [44, None, 44])
        ring, leads = great_ring(MANY, MOST)
        book = Book(ring, leads)
        self.assertEqual(caught(book.play, [(MANY, [(0, 1, MANY)])]), (Stopped, 0, 0, 0))
        book.bound(0, 0, MOST)
        book.play([(MANY // 2, [(0, 1, 1), (1, 2, 1), (2, 0, 1)])])
        self.assertEqual([book.leads(), book.loads()], [(0, 0, MANY), [MANY] * 3])
        self.assertIsNone(book.way_back())
        book.bound(0, MANY, MOST)
        self.assertIsNone(book.way_back())
        self.assertEqual(book.frozen(), [0, 1, 2])


class TwoHundredTest(unittest.TestCase):
    def filled(self):
        book = Book(Cluster([(0, 9), (0, 9), (0, 9)], [(0, 1, 4)]), (2,))
        for at in range(200):
            self.assertIsNone(book.switch(at % 2, 1 - at % 2))
        return book

    def test_one_more(self):
        book = self.filled()
        before = told(book)
        for deed in (("switch", 0, 1), ("play", []), ("play", [(1, [(0, 1, 1)])]), ("bound", 0, 0, 9),
                     ("grow", 0, 2, 1),
                     ("retire", 0, 1, 1)):
            self.assertEqual(caught(getattr(book, deed[0]), *deed[1:]), (TooMany, 200))
        self.assertEqual([told(book), len(book)], [before, 200])

    def test_finally(self):
        book = self.filled()
        for deed, error in ((("switch", 0, 0), (Wrong, 1)), (("switch", 0, 2), (NoBundle, 0, 2)),
                            (("play", None), (Wrong, 0)),
                            (("play", [(1, [(0, 1, 9)])]), (Stopped, 0, 0, 0)), (("bound", 0, 0, 1), (NotValid, 0)),
                            (("grow", 0, 1, MANY), (TooMany, MANY)), (("grow", 0, 2, 8), (NotValid, 0)),
                            (("retire", 0, 2, 1), (NoBundle, 0, 2)), (("retire", 0, 1, 3), (NotLed, 0)),
                            (("retire", 0, 1, 0), (Wrong, 2))):
            self.assertEqual(caught(getattr(book, deed[0]), *deed[1:]), error)
        book = Book(Cluster([(2, 2), (0, 9)], [(0, 1, 4)]), (2,))
        for _ in range(200):
            book.play([])
        self.assertEqual(caught(book.switch, 0, 1), (NotLegal,))
        self.assertEqual(caught(book.retire, 0, 1, 1), (NotValid, 0))

    def test_undone_deeds_do_not_stand(self):
        book = self.filled()
        book.undo()
        self.assertEqual(caught(book.switch, 1, 0), None)
        self.assertEqual(caught(book.switch, 0, 1), (TooMany, 200))
        book.undo()
        self.assertIsNone(book.redo())
        self.assertEqual(caught(book.play, []), (TooMany, 200))
        for _ in range(200):
            book.undo()
        self.assertEqual([len(book), caught(book.undo), book.leads(), book.deeds()], [0, (Nothing,), (2,), []])
        for _ in range(200):
            book.redo()
        self.assertEqual([len(book), caught(book.redo), book.leads()], [200, (Nothing,), (2,)])

    def test_an_error_leaves_what_can_be_done_again(self):
        book = self.filled()
        book.undo()
        book.undo()
        self.assertEqual(caught(book.switch, 0, 2), (NoBundle, 0, 2))
        self.assertEqual(caught(book.play, 7), (Wrong, 0))
        self.assertEqual(caught(book.retire, 1, 0, 3), (NotLed, 1))
        book.redo()
        book.redo()
        self.assertEqual([len(book), caught(book.redo)], [200, (Nothing,)])
        book.undo()
        book.switch(1, 0)
        self.assertEqual(caught(book.redo), (Nothing,))


class FrozenSinceTest(unittest.TestCase):
    def test_always_and_since_a_deed_and_thawed_between(self):
        book = Book(LOW, LEADS)
        book.play([])
        self.assertEqual([book.frozen_since(0, 1), book.frozen_since(2, 0)], [0, 0])
        book.bound(0, 0, 2)
        self.assertEqual([book.frozen_since(0, 1), book.frozen()], [None, []])
        book.play([])
        book.bound(0, 1, 2)
        self.assertEqual([book.frozen_since(1, 0), book.frozen_since(1, 2)], [4, 4])
        book.play([])
        self.assertEqual([book.frozen_since(1, 0), len(book)], [4, 5])
        book.bound(0, 1, 1)
        self.assertEqual(book.frozen_since(1, 0), 4)
        # What was taken back is left aside.
        for _ in range(4):
            book.undo()
        self.assertEqual([book.frozen_since(1, 0), len(book)], [None, 2])
        book.undo()
        self.assertEqual([book.frozen_since(1, 0), len(book)], [0, 1])
        for _ in range(5):
            book.redo()
        self.assertEqual([book.frozen_since(1, 0), len(book)], [4, 6])

    def test_a_bundle_that_did_not_exist_was_not_frozen(self):
        book = Book(Cluster([(3, 3), (0, 9)] + [(0, 9)], [(0, 1, 5), (1, 2, 2)]), (3, 1))
        self.assertEqual([book.frozen_since(0, 1), book.frozen_since(1, 2)], [0, None])
        book.grow(2, 0, 4)
        self.assertEqual([book.frozen_since(0, 1), book.frozen_since(0, 2), book.frozen()], [0, 1, [0, 2]])
        book.retire(1, 0, 2)
        self.assertEqual(book.frozen_since(1, 0), 0)
        book.bound(0, 0, 3)
        book.retire(0, 1, 3)
        book.grow(1, 0, 5)
        self.assertIsNone(book.frozen_since(0, 1))
        book.bound(0, 0, 0)
        self.assertEqual([book.frozen_since(0, 1), book.frozen_since(0, 2), book.frozen_since(1, 2)], [6, 6, None])
        # Bundles are known by their brokers, whatever their numbers are.
        book.retire(1, 2, 1)
        book.retire(2, 1, 1)
        self.assertEqual([book.cluster().bundle_of(0, 2), book.frozen_since(0, 2)], [0, 6])

    def test_a_bundle_that_went_and_came_again_at_once(self):
        book = Book(Cluster([(0, 0), (0, 9)], [(0, 1, 5)]), (0,))
        self.assertEqual(book.frozen_since(0, 1), 0)
        book.retire(1, 0, 5)
        book.grow(1, 0, 5)
        self.assertEqual([book.frozen_since(0, 1), book.way_back(), len(book)], [2, 0, 2])


class CopiesTest(unittest.TestCase):
    def test_they_go_on_independently(self):
        book = Book(LOW, LEADS)
        book.bound(0, 0, 2)
        book.switch(0, 1)
        book.play([(1, [(1, 2, 1)])])
        book.undo()
        book.undo()
        copied = book.copied()
        self.assertIsInstance(copied, Book)
        self.assertIsNot(copied, book)
        before = told(book)
        self.assertEqual(told(copied), before)
        copied.redo()
        copied.redo()
        self.assertEqual(copied.deeds(), [("bound", 0, 0, 2), ("switch", 0, 1), ("play", [(1, [(1, 2, 1)])])])
        self.assertEqual(told(book), before)
        book.undo()
        copied.bound(1, 0, 9)
        self.assertEqual([len(book), len(copied), caught(copied.redo)], [0, 4, (Nothing,)])
        for _ in range(3):
            book.redo()
        self.assertEqual([len(book), book.leads(), copied.leads()], [3, (0, 0, 0), (0, 0, 0)])
        self.assertEqual(book.cluster().bounds(), [(0, 2), (1, 2), (1, 2)])
        for _ in range(4):
            copied.undo()
        self.assertEqual([copied.cluster(), copied.leads(), copied.way_back()], [LOW, LEADS, 0])
        self.assertEqual([book.frozen_since(0, 1), copied.frozen_since(0, 1)], [None, 0])

    def test_against_the_words(self):
        chance = random.Random(144)
        for cluster, leads in some_worlds(145, 25, most=2):
            books, ledgers = [Book(cluster, leads)], [Ledger(cluster, leads)]
            for _ in range(20):
                at = chance.randrange(len(books))
                if len(books) < 4 and chance.random() < 0.3:
                    books.append(books[at].copied())
                    ledgers.append(copy.deepcopy(ledgers[at]))
                name, *arguments = some_deed(chance, books[at])
                if name in ("undo", "redo"):
                    expected = getattr(ledgers[at], name)()
                else:
                    expected = ledgers[at].deed(name, *arguments)
                self.assertEqual(caught(getattr(books[at], name), *arguments), expected)
                self.assertEqual([told(book) for book in books], [ledger.told() for ledger in ledgers])


class SameTest(unittest.TestCase):
    def test_plans_are_copied(self):
        book = Book(LOW.bounded(0, 0, 2), LEADS)
        plan = [(1, [(0, 1, 1)])]
        before = copy.deepcopy(plan)
        book.play(plan)
        self.assertEqual(plan, before)
        plan[0][1].append((1, 0, 1))
        plan.append(7)
        self.assertEqual(book.deeds(), [("play", before)])
        found = book.deeds()
        found[0][1][0][1].append(1)
        found[0][1].append(1)
        found.append(1)
        self.assertEqual(book.deeds(), [("play", before)])
        book.undo()
        book.redo()
        self.assertEqual([book.deeds(), book.copied().deeds()], [[("play", before)]] * 2)

    def test_queries_change_nothing_and_lists_are_new(self):
        book = Book(LOW, LEADS)
        book.bound(0, 0, 2)
        book.bound(0, 1, 2)
        before = copy.deepcopy(told(book))
        for _ in range(2):
            for found in (book.loads(), book.frozen(), book.deeds(), book.cluster().bounds(), book.cluster().bundles()):
                found.append(0)
            self.assertEqual(told(book), before)
        self.assertEqual(LOW, Cluster([(1, 2)] * 3, RING))

    def test_the_first_cluster_stays(self):
        cluster = Cluster([(0, 9)] * 2, [(0, 1, 4)])
        book = Book(cluster, (2,))
        book.grow(0, 1, 2)
        book.bound(0, 1, 9)
        self.assertEqual([cluster, book.cluster()], [Cluster([(0, 9)] * 2, [(0, 1, 4)]),
                                                     Cluster([(1, 9), (0, 9)], [(0, 1, 6)])])


if __name__ == "__main__":
    unittest.main()
