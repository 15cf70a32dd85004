"""The examples of DOC.md, word for word."""

import doctest
import unittest

EXAMPLES = {
    20: """
>>> from leadswitch.errors import Stopped
>>> error = Stopped(1, 7, 0)
>>> [error.block, error.turn, error.run]
[1, 7, 0]
""",
    21: """
>>> from leadswitch.kinds import are_bounds, are_bundles, is_set
>>> [are_bounds([(0, 2), (1, 1)]), are_bundles([(0, 1, 3), (1, 0, 2)], 2), is_set([0, 2], 3), is_set([2, 0], 3)]
[True, False, True, False]
""",
    22: """
>>> from leadswitch.clusters import Cluster
>>> cluster = Cluster([(1, 2), (1, 2), (1, 2)], [(0, 1, 1), (1, 2, 1), (0, 2, 1)])
>>> [cluster.size(), len(cluster), cluster.bundle_of(2, 0), cluster.is_rigid(1), cluster.grown(2, 1, 4).bundles()]
[3, 3, 2, False, [(0, 1, 1), (1, 2, 5), (0, 2, 1)]]
""",
    23: """
>>> from leadswitch.assignments import first_invalid, led, loads
>>> from leadswitch.clusters import Cluster
>>> cluster = Cluster([(1, 2), (1, 2), (1, 2)], [(0, 1, 1), (1, 2, 1), (0, 2, 1)])
>>> [loads(cluster, (1, 1, 0)), led(cluster, (1, 1, 0), 2, 0), first_invalid(cluster, (1, 0, 0)), first_invalid(cluster, (0, 1, 0))]
[[1, 1, 1], 1, 1, 0]
""",
}


class ExamplesTest(unittest.TestCase):
    def test_each_example_returns_what_the_document_says(self):
        for promise, text in EXAMPLES.items():
            with self.subTest(promise=promise):
                example = doctest.DocTestParser().get_doctest(text, {}, f"[{promise}]", "DOC.md", 0)
                said = []
                result = doctest.DocTestRunner(verbose=False).run(example, out=said.append)
                self.assertEqual("".join(said), "")
                self.assertGreater(result.attempted, 0)
                self.assertEqual(result.failed, 0)


if __name__ == "__main__":
    unittest.main()
