"""The names, arguments and places that the section "The interface" of DOC.md lists."""

import importlib
import inspect
import unittest

FUNCTIONS = {
    "leadswitch.kinds": {
        "is_integer": ["thing"], "is_amount": ["thing"], "is_count": ["thing"], "is_set": ["thing", "size"],
        "are_bounds": ["thing"], "are_bundles": ["thing", "size"],
    },
    "leadswitch.assignments": {
        "are_leads": ["cluster", "thing"], "led": ["cluster", "leads", "one", "other"],
        "loads": ["cluster", "leads"], "first_invalid": ["cluster", "leads"],
    },
    "leadswitch.switches": {
        "is_legal": ["cluster", "leads", "one", "other"], "switch": ["cluster", "leads", "one", "other"],
        "legal": ["cluster", "leads"],
    },
    "leadswitch.plans": {
        "is_plan": ["cluster", "thing"], "length": ["plan"], "play": ["cluster", "leads", "plan"], "back": ["plan"],
        "most_turns": ["cluster", "leads", "runs"], "leads_to": ["cluster", "leads", "goal", "thing"],
    },
    "leadswitch.arcs": {
        "givers": ["cluster", "leads"], "takers": ["cluster", "leads"], "arcs": ["cluster", "leads"],
        "reached": ["cluster", "leads", "brokers"], "reaching": ["cluster", "leads", "brokers"],
        "first_way": ["cluster", "leads", "one", "other"],
    },
    "leadswitch.frozen": {
        "low_set": ["cluster", "leads"], "high_set": ["cluster", "leads"], "frozen": ["cluster", "leads"],
        "bar": ["cluster", "leads", "bundle"], "is_bar": ["cluster", "leads", "bundle", "thing"],
        "freeing": ["cluster", "leads", "bundle"],
    },
    "leadswitch.reach": {
        "along": ["cluster", "leads", "brokers", "times"], "around": ["cluster", "leads", "brokers", "times"],
        "decide": ["cluster", "leads", "goal"],
    },
    "leadswitch.onemore": {
        "stop_of": ["cluster", "leads", "one", "other"], "is_stop": ["cluster", "leads", "one", "other", "thing"],
        "fewest": ["cluster", "leads", "one", "other"],
    },
    "leadswitch.nearest": {
        "to_ranges": ["cluster", "leads", "ranges"], "worth": ["cluster", "leads", "ranges", "prices"],
        "is_never": ["cluster", "leads", "ranges", "thing"],
    },
    "leadswitch.fewest": {
        "pieces": ["cluster", "leads", "goal"], "helpers": ["cluster", "leads", "goal"],
        "are_helpers": ["cluster", "leads", "goal", "thing"], "fewest_switches": ["cluster", "leads", "goal"],
        "fewest_plan": ["cluster", "leads", "goal"],
    },
    "leadswitch.extremes": {
        "comes_about": ["cluster", "leads", "loads"], "greatest_sum": ["cluster", "leads", "brokers"],
        "least_sum": ["cluster", "leads", "brokers"],
        "sum_bound": ["cluster", "leads", "brokers", "members", "greatest"], "best": ["cluster", "leads", "weights"],
        "partner": ["cluster", "leads", "one", "other", "broker"],
    },
    "leadswitch.listing": {
        "next_loads": ["cluster", "leads", "loads"], "all_loads": ["cluster", "leads", "*limit=400"],
    },
    "leadswitch.fairest": {
        "chain": ["cluster", "leads"], "is_fairest": ["cluster", "leads"], "fairest": ["cluster", "leads"],
        "least_peak": ["cluster", "leads"], "greatest_dip": ["cluster", "leads"],
    },
    "leadswitch.possible": {
        "find_leads": ["cluster"], "is_impossible": ["cluster", "thing"],
    },
    "leadswitch.records": {
        "first_bad": ["cluster", "start", "switches"], "possible_leads": ["cluster", "start", "switches"],
        "led_range": ["cluster", "start", "switches", "one", "other"],
    },
    "leadswitch.notation": {
        "show_cluster": ["cluster"], "show_leads": ["leads"], "show_plan": ["plan"], "show_set": ["members"],
        "read_cluster": ["text"], "read_leads": ["text"], "read_plan": ["text"],
    },
}

CLASSES = {
    "leadswitch.errors": {
        "LeadError": {}, "NotLegal": {}, "Nothing": {}, "NoText": {}, "NoCommand": {},
        "Wrong": {"__init__": ["place"]}, "Stopped": {"__init__": ["block", "turn", "run"]},
        "NoBundle": {"__init__": ["one", "other"]}, "Frozen": {"__init__": ["bundle"]},
        "NotValid": {"__init__": ["broker"]}, "NotLed": {"__init__": ["broker"]},
        "Impossible": {"__init__": ["at"]}, "TooMany": {"__init__": ["limit"]},
    },
    "leadswitch.clusters": {
        "Cluster": {
            "__init__": ["bounds", "bundles"], "__eq__": ["other"], "__len__": [], "size": [], "bounds": [],
            "bundles": [], "floor": ["broker"], "ceiling": ["broker"], "is_rigid": ["broker"],
            "bundle_of": ["one", "other"], "bounded": ["broker", "floor", "ceiling"],
            "grown": ["one", "other", "many"],
        },
    },
    "leadswitch.books": {
        "Book": {
            "__init__": ["cluster", "leads"], "__len__": [], "switch": ["one", "other"], "play": ["plan"],
            "bound": ["broker", "floor", "ceiling"], "grow": ["one", "other", "many"],
            "retire": ["one", "other", "many"], "undo": [], "redo": [], "cluster": [], "leads": [], "loads": [],
            "frozen": [], "frozen_since": ["one", "other"], "way_back": [], "deeds": [], "copied": [],
        },
    },
    "leadswitch.desk": {"Desk": {"__init__": ["cluster", "leads"], "execute": ["line"]}},
}


class InterfaceTest(unittest.TestCase):
    def check_arguments(self, function, names):
        found = []
        for parameter in inspect.signature(function).parameters.values():
            if parameter.kind == inspect.Parameter.KEYWORD_ONLY:
                found.append(f"*{parameter.name}={parameter.default!r}")
            else:
                self.assertEqual(parameter.kind, inspect.Parameter.POSITIONAL_OR_KEYWORD)
                self.assertIs(parameter.default, inspect.Parameter.empty)
                found.append(parameter.name)
        self.assertEqual(found, names)

    def test_functions_are_defined_in_their_files(self):
        for path, functions in FUNCTIONS.items():
            for name, arguments in functions.items():
                with self.subTest(path=path, name=name):
                    function = getattr(importlib.import_module(path), name)
                    self.assertTrue(inspect.isfunction(function))
                    self.assertEqual((function.__module__, function.__name__), (path, name))
                    self.check_arguments(function, arguments)

    def test_classes_are_defined_in_their_files(self):
        for path, classes in CLASSES.items():
            for name in classes:
                with self.subTest(path=path, name=name):
                    found = getattr(importlib.import_module(path), name)
                    self.assertTrue(inspect.isclass(found))
                    self.assertEqual((found.__module__, found.__name__), (path, name))

    def test_methods_stand_in_the_body_of_their_class(self):
        for path, classes in CLASSES.items():
            for name, methods in classes.items():
                body = vars(getattr(importlib.import_module(path), name))
                for method, arguments in methods.items():
                    with self.subTest(path=path, name=name, method=method):
                        self.assertTrue(inspect.isfunction(body[method]))
                        self.check_arguments(body[method], ["self"] + arguments)


if __name__ == "__main__":
    unittest.main()
