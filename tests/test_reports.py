"""Points 13, 14 and 15: is_consistent, live, garbage and why_live."""

import copy
import itertools
import random
import unittest

from keptbywitness.errors import Inconsistent, NoEntry
from keptbywitness.groups import garbage, is_consistent, live, why_live
from standins import make_report


def pair(exports=(), roots=(), returned=(), sent=6, seen=6, back_sent=4, back_seen=4):
    """Reports of 0 and 1: 0 has sent 6 messages and has the exports, 1 has sent 4 and has the rest."""
    return [
        make_report(0, (0, sent), (0, back_seen), exports=exports),
        make_report(1, (back_sent, 0), (seen, 0), roots=roots, returned=returned),
    ]


def all_quiet(nodes, tables, roots=None):
    """Reports of all nodes that have seen each message; tables and roots are dicts by node."""
    ones = (1,) * nodes
    quiet = [ones[:node] + (0,) + ones[node + 1:] for node in range(nodes)]
    roots = roots or {}
    return [
        make_report(node, quiet[node], quiet[node], roots.get(node, ()), tables.get(node, ()))
        for node in range(nodes)
    ]


def names_of(reports):
    return {(row[0], to, entry): (number, imports) for row in reports for to, entry, number, imports in row[4]}


def own_reason(reports, name):
    """The conditions of point 15, word by word."""
    owner, to, entry = name
    by_node = {row[0]: row for row in reports}
    number = names_of(reports)[name][0]
    if to not in by_node:
        return "stranger"
    _, _, seen, roots, _, returned = by_node[to]
    if number > seen[owner]:
        return "sent"
    if any(row[:2] == (owner, entry) and row[2] > by_node[owner][2][to] for row in returned):
        return "returned"
    if (owner, entry) in roots:
        return "root"
    return None


def paths_to_reasons(reports, path):
    """All paths without a repeated entry that go on from path and end with a reason."""
    if own_reason(reports, path[-1]) is not None:
        yield tuple(path)
    owner, to, entry = path[-1]
    for name, (_, imports) in names_of(reports).items():
        if name[0] == to and (owner, entry) in imports and name not in path:
            yield from paths_to_reasons(reports, path + [name])


def why_by_trying(reports, name):
    paths = list(paths_to_reasons(reports, [name]))
    if not paths:
        return None
    best = min(paths, key=lambda path: (len(path), path))
    return (own_reason(reports, best[-1]), best)


def random_reports(chance):
    """Consistent reports of some members of a network, with few numbers, so that many meet."""
    nodes = chance.randint(2, 4)
    members = sorted(chance.sample(range(nodes), chance.randint(1, nodes)))
    sent = [[0 if one == other else chance.randint(2, 4) for other in range(nodes)] for one in range(nodes)]
    seen = [[0 if one == other else sent[other][one] - chance.randint(0, 2) for other in range(nodes)] for one in range(nodes)]
    held = [[(owner, entry) for owner in range(nodes) if owner != node for entry in range(3)] for node in range(nodes)]

    def some(node, share):
        return tuple(one for one in held[node] if chance.random() < share)

    reports = []
    for node in members:
        exports = []
        for to in range(nodes):
            if to != node and (to in members or chance.random() < 0.2):
                for entry in range(3):
                    if chance.random() < 0.7:
                        number = chance.randint(1, max(1, sent[node][to] - 1))
                        exports.append((to, entry, number, some(node, 0.15)))
        returned = tuple((*one, chance.randint(1, sent[node][one[0]])) for one in some(node, 0.1))
        reports.append(make_report(node, sent[node], seen[node], some(node, 0.05), exports, returned))
    return reports


class ConsistentTest(unittest.TestCase):
    def test_one_or_no_report(self):
        self.assertIs(is_consistent([]), True)
        self.assertIs(is_consistent([make_report(2, (0, 0, 0, 1), (5, 5, 0, 5))]), True)

    def test_exactly_equal_and_one_apart(self):
        for seen, told in ((5, True), (6, True), (7, False)):
            self.assertIs(is_consistent(pair(seen=seen)), told)
        for back_seen, told in ((3, True), (4, True), (5, False)):
            self.assertIs(is_consistent(pair(back_seen=back_seen)), told)

    def test_strangers_do_not_count(self):
        # 1 has seen messages of 0 and 3, which send no report here.
        reports = [
            make_report(1, (0, 0, 2, 0), (9, 0, 3, 9)),
            make_report(2, (0, 3, 0, 0), (9, 2, 0, 9)),
        ]
        self.assertIs(is_consistent(reports), True)

    def test_one_number_among_four_members(self):
        sent = [[0 if one == other else 3 for other in range(4)] for one in range(4)]
        for one, other in itertools.permutations(range(4), 2):
            seen = copy.deepcopy(sent)
            reports = [make_report(node, sent[node], seen[node]) for node in range(4)]
            self.assertIs(is_consistent(reports), True)
            seen[one][other] = 4
            reports = [make_report(node, sent[node], seen[node]) for node in range(4)]
            self.assertIs(is_consistent(reports), False)
            for call in (live, garbage, lambda rows: why_live(rows, (0, 1, 0))):
                with self.assertRaises(Inconsistent):
                    call(reports)


class OwnReasonTest(unittest.TestCase):
    def check(self, reports, name, reason):
        if reason is None:
            self.assertNotIn(name, live(reports))
            self.assertIn(name, garbage(reports))
            self.assertIsNone(why_live(reports, name))
        else:
            self.assertIn(name, live(reports))
            self.assertNotIn(name, garbage(reports))
            self.assertEqual(why_live(reports, name), (reason, (name,)))

    def test_none(self):
        self.check(pair([(1, 0, 6, ())]), (0, 1, 0), None)

    def test_stranger(self):
        report = make_report(0, (0, 1, 1), (0, 0, 0), exports=[(1, 0, 1, ()), (2, 0, 1, ())])
        self.check([report], (0, 1, 0), "stranger")
        self.check([report], (0, 2, 0), "stranger")
        other = make_report(1, (0, 0, 0), (1, 0, 0), roots=[(0, 5)])
        self.check([report, other], (0, 1, 0), None)
        self.check([report, other], (0, 2, 0), "stranger")

    def test_sent(self):
        for number, reason in ((4, None), (5, None), (6, "sent")):
            self.check(pair([(1, 3, number, ())], seen=5), (0, 1, 3), reason)

    def test_sent_counts_what_is_seen_of_the_owner(self):
        reports = all_quiet(3, {0: [(2, 0, 1, ())]})
        reports[2] = make_report(2, (1, 1, 0), (0, 1, 0))
        self.check(reports, (0, 2, 0), "sent")
        reports[2] = make_report(2, (1, 1, 0), (1, 0, 0))
        self.check(reports, (0, 2, 0), None)

    def test_returned(self):
        for number, reason in ((2, None), (3, None), (4, "returned")):
            reports = pair([(1, 3, 6, ())], returned=[(0, 3, number)], back_seen=3)
            self.check(reports, (0, 1, 3), reason)

    def test_returned_is_of_this_entry(self):
        for other in ((0, 2, 4), (0, 4, 4), (2, 3, 4)):
            reports = pair([(1, 3, 6, ())], returned=[other], back_seen=3)
            self.check(reports, (0, 1, 3), None)

    def test_root(self):
        self.check(pair([(1, 3, 6, ())], roots=[(0, 3)]), (0, 1, 3), "root")
        for other in ((0, 2), (0, 4), (2, 3)):
            self.check(pair([(1, 3, 6, ())], roots=[other]), (0, 1, 3), None)

    def test_root_and_record_of_another_node_do_not_count(self):
        reports = all_quiet(3, {0: [(1, 0, 1, ())]}, {2: [(0, 0)]})
        self.check(reports, (0, 1, 0), None)
        reports = all_quiet(3, {0: [(1, 0, 1, ()), (2, 0, 1, ())]}, {2: [(0, 0)]})
        self.assertEqual(live(reports), [(0, 2, 0)])
        self.assertEqual(garbage(reports), [(0, 1, 0)])
        reports[2] = make_report(2, (2, 1, 0), (1, 1, 0), returned=[(0, 0, 2)])
        self.assertEqual(live(reports), [(0, 2, 0)])

    def test_the_first_of_several_reasons(self):
        exports = [(1, 3, 6, ())]
        returned = [(0, 3, 4)]
        roots = [(0, 3)]
        name = (0, 1, 3)
        self.check(pair(exports, roots, returned, seen=5, back_seen=3), name, "sent")
        self.check(pair(exports, roots, returned, seen=6, back_seen=3), name, "returned")
        self.check(pair(exports, roots, returned, seen=6, back_seen=4), name, "root")
        self.check(pair(exports, roots, returned, seen=5, back_seen=3)[:1], name, "stranger")

    def test_entries_in_both_directions(self):
        reports = [
            make_report(0, (0, 2), (0, 2), roots=[(1, 0)], exports=[(1, 0, 2, ())]),
            make_report(1, (2, 0), (2, 0), exports=[(0, 0, 2, ()), (0, 1, 1, ())]),
        ]
        self.assertEqual(live(reports), [(1, 0, 0)])
        self.assertEqual(garbage(reports), [(0, 1, 0), (1, 0, 1)])

    def test_no_reports_and_empty_tables(self):
        self.assertEqual(live([]), [])
        self.assertEqual(garbage([]), [])
        self.assertEqual(live(pair()), [])
        self.assertEqual(garbage(pair()), [])


class OtherEntryTest(unittest.TestCase):
    def test_over_one_node(self):
        # 0 has an entry for 1, which has it only by an entry for 2, where a root refers to it.
        reports = all_quiet(3, {0: [(1, 0, 1, ())], 1: [(2, 0, 1, ((0, 0),))]}, {2: [(1, 0)]})
        self.assertEqual(live(reports), [(0, 1, 0), (1, 2, 0)])
        self.assertEqual(why_live(reports, (0, 1, 0)), ("root", ((0, 1, 0), (1, 2, 0))))
        self.assertEqual(why_live(reports, (1, 2, 0)), ("root", ((1, 2, 0),)))

    def test_only_if_the_other_entry_is_live(self):
        reports = all_quiet(3, {0: [(1, 0, 1, ())], 1: [(2, 0, 1, ((0, 0),))]})
        self.assertEqual(live(reports), [])
        self.assertEqual(garbage(reports), [(0, 1, 0), (1, 2, 0)])

    def test_over_four_nodes_and_back(self):
        tables = {
            0: [(1, 0, 1, ()), (2, 0, 1, ((3, 1),))],
            1: [(2, 0, 1, ((0, 0),))],
            2: [(3, 0, 1, ((1, 0),))],
            3: [(0, 1, 1, ((2, 0),))],
        }
        reports = all_quiet(4, tables, {2: [(0, 0)]})
        way = ((0, 1, 0), (1, 2, 0), (2, 3, 0), (3, 0, 1), (0, 2, 0))
        self.assertEqual(live(reports), sorted(way))
        self.assertEqual(garbage(reports), [])
        for at in range(len(way)):
            self.assertEqual(why_live(reports, way[at]), ("root", way[at:]))

    def test_a_ring_keeps_only_itself(self):
        tables = {
            0: [(1, 0, 1, ((2, 0),))],
            1: [(2, 0, 1, ((0, 0),))],
            2: [(0, 0, 1, ((1, 0),))],
        }
        ring = [(0, 1, 0), (1, 2, 0), (2, 0, 0)]
        reports = all_quiet(3, tables)
        self.assertEqual(live(reports), [])
        self.assertEqual(garbage(reports), ring)
        for name in ring:
            self.assertIsNone(why_live(reports, name))
        reports = all_quiet(3, tables, {1: [(0, 0)]})
        self.assertEqual(live(reports), ring)
        self.assertEqual(why_live(reports, (1, 2, 0)), ("root", ((1, 2, 0), (2, 0, 0), (0, 1, 0))))

    def test_a_ring_that_a_smaller_group_cannot_judge(self):
        tables = {
            0: [(1, 0, 1, ((2, 0),))],
            1: [(2, 0, 1, ((0, 0),))],
            2: [(0, 0, 1, ((1, 0),))],
        }
        two = all_quiet(3, tables)[:2]
        self.assertEqual(live(two), [(0, 1, 0), (1, 2, 0)])
        self.assertEqual(why_live(two, (0, 1, 0)), ("stranger", ((0, 1, 0), (1, 2, 0))))
        one = all_quiet(3, tables)[:1]
        self.assertEqual(why_live(one, (0, 1, 0)), ("stranger", ((0, 1, 0),)))

    def test_imports_of_a_node_that_it_is_not_for(self):
        # 2 exports (0, 0), but this is its own import of that number, not the one of 1.
        tables = {0: [(1, 0, 1, ())], 2: [(1, 0, 1, ((0, 0),))]}
        reports = all_quiet(3, tables, {1: [(2, 0)]})
        self.assertEqual(live(reports), [(2, 1, 0)])
        self.assertEqual(garbage(reports), [(0, 1, 0)])

    def test_imports_that_no_report_has(self):
        reports = all_quiet(2, {0: [(1, 0, 1, ((1, 8), (2, 0)))]}, {1: [(0, 0), (0, 9)]})
        self.assertEqual(live(reports), [(0, 1, 0)])

    def test_the_shortest_path_first(self):
        # By 1's entry for 2 the path is longer than by its entry for 3, although that is greater.
        tables = {
            0: [(1, 0, 1, ())],
            1: [(2, 0, 1, ((0, 0),)), (3, 0, 1, ((0, 0),))],
            2: [(3, 0, 1, ((1, 0),))],
        }
        reports = all_quiet(4, tables, {3: [(1, 0), (2, 0)]})
        self.assertEqual(why_live(reports, (0, 1, 0)), ("root", ((0, 1, 0), (1, 3, 0))))

    def test_a_path_of_one_although_another_entry_keeps_it(self):
        tables = {0: [(1, 0, 1, ())], 1: [(0, 0, 1, ((0, 0),))]}
        reports = all_quiet(2, tables, {0: [(1, 0)], 1: [(0, 0)]})
        self.assertEqual(why_live(reports, (0, 1, 0)), ("root", ((0, 1, 0),)))

    def test_the_least_of_several_paths(self):
        # The path by (1, 2, 9) ends with (2, 0, 0), that by (1, 2, 10) with a lesser reason.
        tables = {
            0: [(1, 0, 1, ()), (2, 5, 1, ())],
            1: [(2, 9, 1, ((0, 0),)), (2, 10, 1, ((0, 0),))],
            2: [(0, 0, 1, ((1, 9),)), (0, 1, 1, ((1, 10),))],
        }
        reports = all_quiet(3, tables, {0: [(2, 0), (2, 1)]})
        way = ((0, 1, 0), (1, 2, 9), (2, 0, 0))
        self.assertEqual(why_live(reports, (0, 1, 0)), ("root", way))
        tables[2] = [(0, 0, 1, ((1, 10),)), (0, 1, 1, ((1, 9),))]
        reports = all_quiet(3, tables, {0: [(2, 0), (2, 1)]})
        way = ((0, 1, 0), (1, 2, 9), (2, 0, 1))
        self.assertEqual(why_live(reports, (0, 1, 0)), ("root", way))

    def test_the_reason_is_that_of_the_last_entry(self):
        tables = {0: [(1, 0, 1, ())], 1: [(0, 4, 1, ((0, 0),))]}
        reports = all_quiet(2, tables)
        self.assertIsNone(why_live(reports, (0, 1, 0)))
        reports[0] = make_report(0, (0, 1), (0, 0), [(1, 4)], tables[0])
        self.assertEqual(why_live(reports, (0, 1, 0)), ("sent", ((0, 1, 0), (1, 0, 4))))

    def test_many_entries(self):
        many = 600
        here = [(1, key, 1, ((1, key),)) for key in range(many)]
        there = [(0, key, 1, ((0, key + 1),)) for key in range(many)]
        reports = all_quiet(2, {0: here, 1: there}, {0: [(1, many - 1)]})
        self.assertEqual(live(reports), [(1, 0, many - 1)])
        reports = all_quiet(2, {0: here, 1: there}, {0: [(1, 0)]})
        self.assertEqual(len(live(reports)), 2 * many - 1)
        self.assertEqual(garbage(reports), [(0, 1, 0)])
        reason, path = why_live(reports, (0, 1, many - 1))
        self.assertEqual((reason, len(path), path[-1]), ("root", 2 * many - 2, (1, 0, 0)))


class ErrorsInOrderTest(unittest.TestCase):
    def test_no_entry(self):
        reports = pair([(1, 0, 6, ()), (1, 2, 6, ())])
        for name in ((0, 1, 1), (0, 1, 3), (1, 0, 0), (0, 2, 0), (2, 0, 0), (0, 0, 0), (7, 1, 0)):
            with self.assertRaises(NoEntry):
                why_live(reports, name)
        with self.assertRaises(NoEntry):
            why_live([], (0, 1, 0))

    def test_import_without_entry_is_no_entry(self):
        with self.assertRaises(NoEntry):
            why_live(pair([(1, 0, 6, ())], roots=[(0, 1)]), (0, 1, 1))

    def test_inconsistent_ahead_of_no_entry(self):
        reports = pair([(1, 0, 6, ())], seen=7)
        for name in ((0, 1, 0), (0, 1, 1)):
            with self.assertRaises(Inconsistent):
                why_live(reports, name)
        with self.assertRaises(Inconsistent):
            live(reports)
        with self.assertRaises(Inconsistent):
            garbage(reports)


class AllReportsTest(unittest.TestCase):
    def test_against_point_15_word_by_word(self):
        chance = random.Random(15)
        seen_reasons = {}
        for _ in range(150):
            reports = random_reports(chance)
            self.assertTrue(is_consistent(reports))
            whys = {name: why_by_trying(reports, name) for name in names_of(reports)}
            self.assertEqual(live(reports), sorted(name for name, why in whys.items() if why))
            self.assertEqual(garbage(reports), sorted(name for name, why in whys.items() if not why))
            for name, why in whys.items():
                self.assertEqual(why_live(reports, name), why)
                told = why and (why[0], min(len(why[1]), 3))
                seen_reasons[told] = True
        for reason in ("stranger", "sent", "returned", "root"):
            for length in (1, 2, 3):
                self.assertIn((reason, length), seen_reasons)
        self.assertIn(None, seen_reasons)

    def test_arguments_are_unchanged_and_lists_new(self):
        reports = pair([(1, 0, 6, ()), (1, 1, 6, ())], roots=[(0, 1)])
        before = copy.deepcopy(reports)
        for call in (live, garbage):
            first = call(reports)
            expected = list(first)
            first.append("changed")
            self.assertEqual(call(reports), expected)
            self.assertIs(type(first), list)
        answer = why_live(reports, (0, 1, 1))
        self.assertIs(type(answer), tuple)
        self.assertIs(type(answer[1]), tuple)
        self.assertEqual(reports, before)


if __name__ == "__main__":
    unittest.main()
