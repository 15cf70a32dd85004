"""The examples of DOC.md, word for word."""

import doctest
import inspect
import re
import unittest

from leadswitch.errors import LeadError

EXAMPLES = {
    20: """
>>> from leadswitch.errors import Stopped
>>> error = Stopped(1, 7, 0)
>>> [error.block, error.turn, error.run]
[1, 7, 0]
""",
    21: """
>>> from leadswitch.kinds import are_bounds, are_bundles, is_set
>>> [are_bounds([(0, 2), (1, 1)]), are_bundles([(0, 1, 3), (1, 0, 2)], 2), is_set([0, 2], 3), is_set([2, 0], 3)]
[True, False, True, False]
""",
    22: """
>>> from leadswitch.clusters import Cluster
>>> cluster = Cluster([(1, 2), (1, 2), (1, 2)], [(0, 1, 1), (1, 2, 1), (0, 2, 1)])
>>> [cluster.size(), len(cluster), cluster.bundle_of(2, 0), cluster.is_rigid(1), cluster.grown(2, 1, 4).bundles()]
[3, 3, 2, False, [(0, 1, 1), (1, 2, 5), (0, 2, 1)]]
""",
    23: """
>>> from leadswitch.assignments import first_invalid, led, loads
>>> from leadswitch.clusters import Cluster
>>> cluster = Cluster([(1, 2), (1, 2), (1, 2)], [(0, 1, 1), (1, 2, 1), (0, 2, 1)])
>>> [loads(cluster, (1, 1, 0)), led(cluster, (1, 1, 0), 2, 0), first_invalid(cluster, (1, 0, 0)), first_invalid(cluster, (0, 1, 0))]
[[1, 1, 1], 1, 1, 0]
""",
    30: """
>>> from leadswitch.clusters import Cluster
>>> from leadswitch.switches import legal, switch
>>> ring = [(0, 1, 1), (1, 2, 1), (0, 2, 1)]
>>> low, free = Cluster([(1, 2), (1, 2), (1, 2)], ring), Cluster([(0, 2), (1, 2), (1, 2)], ring)
>>> [legal(low, (1, 1, 0)), legal(free, (1, 1, 0)), switch(free, (1, 1, 0), 0, 1)]
[[], [(0, 1)], (0, 1, 0)]
""",
    31: """
>>> from leadswitch.clusters import Cluster
>>> from leadswitch.plans import length, play
>>> cluster = Cluster([(0, 10), (5, 6), (0, 10)], [(0, 1, 5), (1, 2, 5)])
>>> plan = [(3, [(0, 1, 1), (1, 2, 1)])]
>>> [length(plan), play(cluster, (5, 5), plan)]
[6, (2, 2)]
>>> play(cluster, (5, 5), [(1, [(0, 1, 1)]), (9, [(1, 2, 1), (0, 1, 1)])])
raises Stopped(1, 4, 1)
""",
    32: """
>>> from leadswitch.clusters import Cluster
>>> from leadswitch.plans import back, most_turns
>>> cluster = Cluster([(0, 10), (5, 6), (0, 10)], [(0, 1, 5), (1, 2, 5)])
>>> [back([(3, [(0, 1, 1), (1, 2, 1)])]), most_turns(cluster, (5, 5), [(0, 1, 1), (1, 2, 1)]), most_turns(cluster, (5, 5), [(0, 1, 1), (1, 0, 1)])]
[[(3, [(2, 1, 1), (1, 0, 1)])], 5, None]
""",
    40: """
>>> from leadswitch.arcs import arcs, first_way, givers, reached
>>> from leadswitch.clusters import Cluster
>>> cluster = Cluster([(1, 2), (1, 2), (1, 2), (0, 2)], [(0, 1, 1), (1, 2, 1), (0, 2, 1), (0, 3, 1)])
>>> leads = (1, 1, 0, 0)
>>> [givers(cluster, leads), arcs(cluster, leads), reached(cluster, leads, [0]), first_way(cluster, leads, 3, 2)]
[[3], [(0, 1), (1, 2), (2, 0), (3, 0)], [0, 1, 2], [3, 0, 1, 2]]
""",
    42: """
>>> from leadswitch.clusters import Cluster
>>> from leadswitch.frozen import bar, is_bar
>>> ring = [(0, 1, 1), (1, 2, 1), (0, 2, 1)]
>>> low, free = Cluster([(1, 2), (1, 2), (1, 2)], ring), Cluster([(0, 2), (1, 2), (1, 2)], ring)
>>> [bar(low, (1, 1, 0), 1), is_bar(low, (1, 1, 0), 1, ('low', [1, 2])), bar(free, (1, 1, 0), 1)]
[('low', [0, 1, 2]), False, None]
""",
    43: """
>>> from leadswitch.clusters import Cluster
>>> from leadswitch.frozen import freeing
>>> freeing(Cluster([(1, 2), (1, 2), (1, 2)], [(0, 1, 1), (1, 2, 1), (0, 2, 1)]), (1, 1, 0), 0)
[('floor', 0), ('floor', 1), ('floor', 2)]
""",
    51: """
>>> from leadswitch.clusters import Cluster
>>> from leadswitch.plans import play
>>> from leadswitch.reach import along, around
>>> cluster = Cluster([(0, 10), (5, 6), (0, 10)], [(0, 1, 5), (1, 2, 5)])
>>> play(cluster, (5, 5), along(cluster, (5, 5), [0, 1, 2], 3))
(2, 2)
>>> ring = [(0, 1, 1), (1, 2, 1), (0, 2, 1)]
>>> low, free = Cluster([(1, 2), (1, 2), (1, 2)], ring), Cluster([(0, 2), (1, 2), (1, 2)], ring)
>>> play(free, (1, 1, 0), around(free, (1, 1, 0), [1, 2, 0], 1))
(0, 0, 1)
>>> around(low, (1, 1, 0), [1, 2, 0], 1)
raises NotLegal()
""",
    52: """
>>> from leadswitch.clusters import Cluster
>>> from leadswitch.reach import decide
>>> ring = [(0, 1, 1), (1, 2, 1), (0, 2, 1)]
>>> decide(Cluster([(1, 2), (1, 2), (1, 2)], ring), (1, 1, 0), (0, 0, 1))
('frozen', 0, ('low', [0, 1, 2]))
""",
    54: """
>>> from leadswitch.clusters import Cluster
>>> from leadswitch.onemore import fewest
>>> from leadswitch.plans import length
>>> cluster = Cluster([(1, 2), (1, 2), (1, 2), (0, 2)], [(0, 1, 1), (1, 2, 1), (0, 2, 1), (0, 3, 1)])
>>> [length(fewest(cluster, (1, 1, 0, 0), 2, 0)[1]), length(fewest(cluster, (1, 1, 0, 0), 3, 0)[1])]
[4, 1]
""",
    60: """
>>> from leadswitch.clusters import Cluster
>>> from leadswitch.nearest import is_never, to_ranges, worth
>>> from leadswitch.plans import length
>>> cluster = Cluster([(0, 10), (0, 6), (0, 10)], [(0, 1, 5), (1, 2, 5)])
>>> wished = [(2, 2), (5, 5), (3, 3)]
>>> [length(to_ranges(cluster, (5, 5), wished)[1]), worth(cluster, (5, 5), wished, [2, 1, 0])]
[6, 6]
>>> is_never(cluster, (5, 5), [(0, 10), (0, 6), (9, 10)], [2])
True
""",
    63: """
>>> from leadswitch.clusters import Cluster
>>> from leadswitch.fewest import fewest_switches, helpers, pieces
>>> cluster = Cluster([(1, 2), (1, 2), (1, 2), (0, 2)], [(0, 1, 1), (1, 2, 1), (0, 2, 1), (0, 3, 1)])
>>> leads, goal = (1, 1, 0, 0), (0, 0, 1, 0)
>>> [pieces(cluster, leads, goal), helpers(cluster, leads, goal), fewest_switches(cluster, leads, goal)]
[[([0, 1, 2], 'low')], [(3, 0)], 5]
""",
    70: """
>>> from leadswitch.clusters import Cluster
>>> from leadswitch.extremes import comes_about, greatest_sum, least_sum, sum_bound
>>> cluster = Cluster([(0, 10), (0, 6), (0, 10)], [(0, 1, 5), (1, 2, 5)])
>>> [greatest_sum(cluster, (5, 5), [1])[0], least_sum(cluster, (5, 5), [0, 1])[0], sum_bound(cluster, (5, 5), [0, 1], [0, 1], False)]
[6, 5, 5]
>>> [comes_about(cluster, (5, 5), [0, 6, 4]), comes_about(cluster, (5, 5), [0, 4, 6])]
[True, False]
""",
    73: """
>>> from leadswitch.clusters import Cluster
>>> from leadswitch.listing import all_loads, next_loads
>>> cluster = Cluster([(0, 2), (1, 2), (1, 2)], [(0, 1, 1), (1, 2, 1), (0, 2, 1)])
>>> [all_loads(cluster, (1, 1, 0)), next_loads(cluster, (1, 1, 0), [0, 1, 3])]
[[[0, 1, 2], [0, 2, 1], [1, 1, 1]], [0, 2, 1]]
""",
    80: """
>>> from leadswitch.assignments import loads
>>> from leadswitch.clusters import Cluster
>>> from leadswitch.fairest import chain, fairest
>>> cluster = Cluster([(0, 9), (0, 9), (0, 9)], [(0, 1, 3), (1, 2, 3)])
>>> [loads(cluster, (3, 2)), chain(cluster, (3, 2)), loads(cluster, fairest(cluster, (3, 2)))]
[[3, 2, 1], [0, 1, 2], [2, 2, 2]]
""",
    90: """
>>> from leadswitch.clusters import Cluster
>>> from leadswitch.possible import find_leads, is_impossible
>>> [find_leads(Cluster([(0, 1), (0, 1)], [(0, 1, 3)])), is_impossible(Cluster([(2, 5), (2, 5)], [(0, 1, 3)]), ('under', [0, 1]))]
[('over', [0, 1]), True]
""",
    92: """
>>> from leadswitch.clusters import Cluster
>>> from leadswitch.records import first_bad, led_range
>>> cluster = Cluster([(0, 9), (0, 9), (0, 9)], [(0, 1, 3), (1, 2, 3), (0, 2, 3)])
>>> [led_range(cluster, [3, 3, 3], [], 0, 1), led_range(cluster, [3, 3, 3], [(0, 1), (0, 1)], 0, 1), first_bad(cluster, [3, 3, 3], [(0, 1)] * 4)]
[(0, 3), (2, 3), 3]
""",
    103: """
>>> from leadswitch.clusters import Cluster
>>> from leadswitch.notation import read_plan, show_cluster
>>> [show_cluster(Cluster([(1, 2), (0, 2)], [(0, 1, 3)])), read_plan('3 0>1*1 1>2*1; 1 2>0*5')]
['1-2 0-2; 0:1*3', [(3, [(0, 1, 1), (1, 2, 1)]), (1, [(2, 0, 5)])]]
""",
    104: """
>>> from leadswitch.clusters import Cluster
>>> from leadswitch.desk import Desk
>>> desk = Desk(Cluster([(1, 2), (1, 2), (1, 2)], [(0, 1, 1), (1, 2, 1), (0, 2, 1)]), (1, 1, 0))
>>> [desk.execute('why 0 1'), desk.execute('bound 0 0 2'), desk.execute('to 0 0 1'), desk.execute('switch 0 1')]
['low 0 1 2', 'ok', 'yes 3', 'ok']
>>> [desk.execute('play 1 1>2*1 2>0*1'), desk.execute('loads'), desk.execute('frozen'), desk.execute('fairest')]
['ok', '1 1 1', '-', '1 1']
""",
}


class Shown:
    """What the document writes for an error that is raised."""

    def __init__(self, error):
        parameters = list(inspect.signature(error.__class__.__init__).parameters.values())[1:]
        names = [one.name for one in parameters if one.kind == inspect.Parameter.POSITIONAL_OR_KEYWORD]
        fields = ", ".join([repr(getattr(error, name)) for name in names])
        self.text = f"raises {error.__class__.__name__}({fields})"

    def __repr__(self):
        return self.text


def raised(call):
    """Return what a call returns, or what shows the error of the package that it raises."""
    try:
        return call()
    except LeadError as error:
        return Shown(error)


def prepared(text):
    """Return an example in which each call that raises an error shows it instead."""
    return re.sub(r"^>>> (.*)\n(?=raises )", r">>> raised(lambda: \1)\n", text, flags=re.MULTILINE)


class ExamplesTest(unittest.TestCase):
    def test_each_example_returns_what_the_document_says(self):
        for promise, text in EXAMPLES.items():
            with self.subTest(promise=promise):
                names = {"raised": raised}
                example = doctest.DocTestParser().get_doctest(prepared(text), names, f"[{promise}]", "DOC.md", 0)
                said = []
                result = doctest.DocTestRunner(verbose=False).run(example, out=said.append)
                self.assertEqual("".join(said), "")
                self.assertGreater(result.attempted, 0)
                self.assertEqual(result.failed, 0)


if __name__ == "__main__":
    unittest.main()
