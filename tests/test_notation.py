"""Texts of clusters, leads, plans and sets [3] [4] [102] [103]."""

import copy
import itertools
import random
import re
import unittest

from leadswitch.clusters import Cluster
from leadswitch.errors import NoText
from leadswitch.notation import read_cluster, read_leads, read_plan, show_cluster, show_leads, show_plan, show_set
from values import any_values
from worlds import RING, great_goals, sets_of, wide_worlds

MANY, MOST = 10 ** 18, 10 ** 30
INTEGER = "(0|[1-9][0-9]*)"
SIGNS = "0123456789 ;:*>-\n+_.,aA'"


def some_plan(chance):
    pairs = list(itertools.permutations(range(10), 2))
    return [(chance.choice((1, 2, MANY)),
             [chance.choice(pairs) + (chance.choice((1, 7, 10, MANY)),) for _ in range(chance.randint(1, 4))])
            for _ in range(chance.randint(0, 4))]


def changed(chance, text):
    """Return a text that differs a little."""
    at = chance.randint(0, len(text))
    sign = chance.choice(SIGNS)
    return chance.choice((text[:at] + sign + text[at:], text[:at] + text[at + 1:], text[:at] + sign + text[at + 1:],
                          text[:at] + text[at:at + 2] + text[at:]))


def is_cluster_text(text):
    """Return whether a text writes a cluster, by the words of [102]."""
    form = re.fullmatch(rf"({INTEGER}-{INTEGER}(?: {INTEGER}-{INTEGER})*); (-|{INTEGER}:{INTEGER}\*{INTEGER}"
                        rf"(?: {INTEGER}:{INTEGER}\*{INTEGER})*)", text)
    if form is None:
        return False
    first, second = text.split("; ")
    bounds = [tuple(int(number) for number in word.split("-")) for word in first.split(" ")]
    rows = [tuple(int(number) for number in re.split("[:*]", word)) for word in second.split(" ") if second != "-"]
    return (2 <= len(bounds) <= 10 and all(floor <= ceiling <= MOST for floor, ceiling in bounds) and len(rows) <= 45
            and all(one < other < len(bounds) and 1 <= many <= MANY for one, other, many in rows)
            and len({row[:2] for row in rows}) == len(rows))


def is_leads_text(text):
    if text == "-":
        return True
    if re.fullmatch(f"{INTEGER}(?: {INTEGER})*", text) is None:
        return False
    return text.count(" ") < 45 and all(int(word) <= MANY for word in text.split(" "))


def is_plan_text(text):
    if text == "-":
        return True
    run = rf"{INTEGER}>{INTEGER}\*{INTEGER}"
    if re.fullmatch(f"{INTEGER}(?: {run})+(?:; {INTEGER}(?: {run})+)*", text) is None:
        return False
    blocks = [group.split(" ") for group in text.split("; ")]
    runs = [[int(number) for number in re.split("[>*]", word)] for words in blocks for word in words[1:]]
    return (len(blocks) <= 400 and len(runs) <= 4000 and all(len(words) <= 1001 for words in blocks)
            and all(1 <= int(words[0]) <= MANY for words in blocks)
            and all(one < 10 and other < 10 and one != other and 1 <= times <= MANY for one, other, times in runs))


KINDS = ((read_cluster, show_cluster, is_cluster_text), (read_leads, show_leads, is_leads_text),
         (read_plan, show_plan, is_plan_text))


class ShowTest(unittest.TestCase):
    def test_clusters(self):
        for bounds, bundles, text in (
            ([(0, 0), (0, 0)], [], "0-0 0-0; -"),
            ([(1, 2), (0, 10), (4, 4)], [(1, 2, 3)], "1-2 0-10 4-4; 1:2*3"),
            ([(0, MOST)] * 2, [(0, 1, MANY)], f"0-1{'0' * 30} 0-1{'0' * 30}; 0:1*1{'0' * 18}"),
            ([(1, 2)] * 3, RING, "1-2 1-2 1-2; 0:1*1 1:2*1 0:2*1"),
        ):
            self.assertEqual(show_cluster(Cluster(bounds, bundles)), text)

    def test_leads_and_sets(self):
        for numbers, text in (((), "-"), ((0,), "0"), ((0, MANY, 7), f"0 {MANY} 7"), ((1,) * 45, " ".join(["1"] * 45))):
            self.assertEqual(show_leads(numbers), text)
        for members in sets_of(4) + [list(range(10))]:
            self.assertEqual(show_set(members), " ".join(str(broker) for broker in members) or "-")

    def test_plans(self):
        for plan, text in (([], "-"), ([(1, [(0, 1, 1)])], "1 0>1*1"),
                           ([(3, [(0, 1, 1), (1, 2, 1)]), (1, [(2, 0, 5)])], "3 0>1*1 1>2*1; 1 2>0*5"),
                           ([(MANY, [(9, 8, MANY)])], f"{MANY} 9>8*{MANY}")):
            self.assertEqual(show_plan(plan), text)


class ReadTest(unittest.TestCase):
    def check_none(self, read, things):
        for thing in things:
            with self.subTest(read=read.__name__, thing=thing[:80] if isinstance(thing, str) else thing.__class__):
                with self.assertRaises(NoText):
                    read(thing)

    def test_what_is_shown_is_read_back(self):
        chance = random.Random(150)
        for cluster, leads in wide_worlds(151, 60) + [world[:2] for world in great_goals(152, 20)]:
            found = read_cluster(show_cluster(cluster))
            self.assertIsInstance(found, Cluster)
            self.assertEqual(found, cluster)
            self.assertEqual(read_leads(show_leads(leads)), leads)
            plan = some_plan(chance)
            self.assertEqual(read_plan(show_plan(plan)), plan)
            self.assertEqual(read_leads(show_set(list(range(5)))), (0, 1, 2, 3, 4))

    def test_texts_that_differ_a_little(self):
        chance, counts = random.Random(153), {}
        texts = [["0-9 1-2 3-3; 0:1*5 1:2*10 0:2*1", "0-0 0-10; -", "1-2 1-2; 0:1*1"],
                 ["-", "0", "10 0 7", "1000000000000000000 5"],
                 ["-", "1 0>1*1", "3 0>1*1 1>2*10; 1 2>0*5", "10 9>8*7; 2 0>1*1 1>0*1"]]
        for (read, show, is_text), group in zip(KINDS, texts):
            for text in group:
                for _ in range(1500):
                    other = text
                    for _ in range(chance.choice((1, 1, 2))):
                        other = changed(chance, other)
                    expected = is_text(other)
                    counts[(read, expected)] = counts.get((read, expected), 0) + 1
                    if expected:
                        self.assertEqual(show(read(other)), other)
                    else:
                        self.check_none(read, (other,))
        self.assertTrue(all(counts[(kind[0], expected)] > 200 for kind in KINDS for expected in (True, False)), counts)

    def test_any_values(self):
        for read, _, is_text in KINDS:
            self.check_none(read, [thing for thing in any_values() if not (isinstance(thing, str) and is_text(thing))])
            self.check_none(read, ([], (), ["-"], b"-", {"-": 1}, "", " ", "\n", ";", "; ", "--", "- ", " -", "-\n",
                                   "-; -"))
        self.assertEqual([read_leads("0"), read_leads("-"), read_plan("-")], [(0,), (), []])

    def test_integers(self):
        for number in ("00", "01", "007", "-1", "+1", "1.0", "1e3", "0x1", "1_0", "", "1 ", " 1", "x", "\u0663",
                       "\u00b2",
                       str(MOST + 1), "1" * 40, "1" * 41, "9" * 5000, "0" * 41):
            self.check_none(read_cluster, (f"0-{number} 0-1; -", f"{number}-{MOST} 0-1; -", f"0-9 0-9; 0:1*{number}",
                                           f"0-9 0-9; {number}:1*1", f"0-9 0-9; 0:{number}*1"))
            others = (f"1 {number}", f"{number} 1") if number == number.strip() else ()
            self.check_none(read_leads, (number,) + others)
            self.check_none(read_plan, (f"{number} 0>1*1", f"1 0>1*{number}", f"1 {number}>1*1", f"1 0>{number}*1"))
        self.assertEqual(read_leads(f"0 {MANY}"), (0, MANY))
        self.check_none(read_leads, (str(MANY + 1), f"1 {MANY + 1}"))
        self.check_none(read_plan, ("0 0>1*1", "1 0>1*0", f"{MANY + 1} 0>1*1", f"1 0>1*{MANY + 1}", "1 0>10*1",
                                    "1 10>0*1",
                                    "1 3>3*1"))
        self.assertEqual(read_plan(f"{MANY} 0>1*{MANY}"), [(MANY, [(0, 1, MANY)])])
        self.check_none(read_cluster, ("0-9 0-9; 0:1*0", f"0-9 0-9; 0:1*{MANY + 1}", "9-0 0-9; -",
                                       f"0-{MOST + 1} 0-9; -",
                                       "0-9 0-9; 1:0*1", "0-9 0-9; 0:2*1", "0-9 0-9; 0:0*1", "0-9 0-9; 0:1*1 0:1*1"))

    def test_sizes(self):
        for size in range(1, 13):
            text = " ".join(["0-9"] * size) + "; -"
            if 2 <= size <= 10:
                self.assertEqual(read_cluster(text), Cluster([(0, 9)] * size, []))
            else:
                self.check_none(read_cluster, (text,))
        rows = [(one, other, 1) for one, other in itertools.combinations(range(10), 2)]
        cluster = Cluster([(0, 9)] * 10, rows)
        self.assertEqual(read_cluster(show_cluster(cluster)), cluster)
        self.check_none(read_cluster, (show_cluster(cluster) + " 0:1*1",))
        for many in (44, 45, 46, 47, 1000):
            text = " ".join(["7"] * many)
            if many <= 45:
                self.assertEqual(read_leads(text), (7,) * many)
            else:
                self.check_none(read_leads, (text,))

    def test_blocks_and_runs(self):
        run = (0, 1, 1)
        for plan in ([(1, [run])] * 400, [(1, [run] * 1000)], [(1, [run] * 1000)] * 4, [(2, [run] * 10)] * 400):
            self.assertEqual(read_plan(show_plan(plan)), plan)
        self.check_none(read_plan, [show_plan(plan) for plan in (
            [(1, [run])] * 401, [(1, [run] * 1001)], [(1, [run] * 1000)] * 4 + [(1, [run])],
            [(2, [run] * 10)] * 399 + [(2, [run] * 11)], [(1, [])], [(1, [run]), (1, [])])])

    def test_blanks_line_feeds_and_other_signs(self):
        self.check_none(read_cluster, (
            "0-9  0-9; -", "0-9 0-9;  -", "0-9 0-9;-", "0-9 0-9 ; -", " 0-9 0-9; -", "0-9 0-9; - ", "0-9 0-9; -\n",
            "0-9 0-9;\n-", "0-9\n0-9; -", "0-9 0-9", "0-9 0-9; ", "-; -", "0-9 0-9; -; -", "0-9 0-9; 0:1*1; -",
            "0-9 0-9; - -", "0-9 0-9; 0:1*1 -", "0-9 0-9; 0:1*1 ", "0-9,0-9; -", "0-9 0-9; 0:1:1", "0-9 0-9; 0*1*1",
            "0-9-9 0-9; -", "0-9 0-9; 0:1*1*1", "0 9 0-9; -", "0-9 0-9; 0>1*1", "0-9 - 0-9; -", "0-9 0-9;; -",
        ))
        self.check_none(read_leads, ("1  2", " 1 2", "1 2 ", "1\n2", "1 2\n", "1,2", "1; 2", "1 -", "- 1", "- -",
                                     "(1, 2)"))
        self.check_none(read_plan, (
            "1  0>1*1", " 1 0>1*1", "1 0>1*1 ", "1 0>1*1\n", "1\n0>1*1", "1 0>1*1;1 0>1*1", "1 0>1*1;  1 0>1*1",
            "1 0>1*1 ; 1 0>1*1", "1 0>1*1; ", "; 1 0>1*1", "1", "1; 1 0>1*1", "1 0>1*1; -", "-; -", "1 0>1", "1 0*1",
            "1 0>1>1*1", "1 0>1*1*1", "1 0:1*1", "0>1*1", "0>1*1 1", "1 0>1*1 2 0>1*1", "1 -",
        ))


class SameTest(unittest.TestCase):
    def test_arguments_stay_and_lists_are_new(self):
        cluster, plan, members = Cluster([(1, 2)] * 3, RING), [(3, [(0, 1, 1)])], [0, 2]
        before = copy.deepcopy([plan, members])
        for _ in range(2):
            texts = [show_cluster(cluster), show_leads((1, 1, 0)), show_plan(plan), show_set(members)]
            self.assertEqual(texts, ["1-2 1-2 1-2; 0:1*1 1:2*1 0:2*1", "1 1 0", "3 0>1*1", "0 2"])
            found = read_plan("3 0>1*1")
            found[0][1].append(1)
            found.append(1)
            self.assertEqual(read_plan("3 0>1*1"), plan)
            empty = read_plan("-")
            empty.append(1)
            self.assertEqual(read_plan("-"), [])
        self.assertEqual([plan, members], before)
        self.assertEqual(cluster, Cluster([(1, 2)] * 3, RING))


if __name__ == "__main__":
    unittest.main()
