"""Points 12, 14 and 16: kept_by, reachable and dangling, over stand-ins for nodes."""

import itertools
import random
import unittest

from keptbywitness.errors import KeepError, OutOfRange
from keptbywitness.groups import dangling, kept_by, live, reachable
from standins import StandIn, imp, obj

QUIET = {2: ((0, 1), (1, 0)), 3: ((0, 1, 1), (1, 0, 1), (1, 1, 0)), 4: ((0, 1, 1, 1), (1, 0, 1, 1), (1, 1, 0, 1), (1, 1, 1, 0))}


def quiet_network(*rows):
    """Stand-ins whose messages, one on each way, have all been seen; rows are (heap, roots, exports)."""
    numbers = QUIET[len(rows)]
    return [
        StandIn(len(rows), at, heap, list(enumerate(roots)), [(*one, 1) for one in exports], numbers[at], numbers[at])
        for at, (heap, roots, exports) in enumerate(rows)
    ]


def ring_over(many):
    """Nodes with an object each that holds the one of the next node; no roots."""
    rows = []
    for at in range(many):
        rows.append(({0: (imp((at + 1) % many, 0),)}, [], [((at - 1) % many, 0, obj(0))]))
    return rows


def reached_by_trying(nodes):
    """All pairs (node, reference) to which a root leads, by repeating point 12 until nothing is new."""
    found = {(at, reference) for at, node in enumerate(nodes) for _, reference in node.roots()}
    tables = {(at, to, entry): target for at, node in enumerate(nodes) for to, entry, target, _ in node.exports()}
    while True:
        more = set(found)
        for at, reference in found:
            if reference[0] == "object":
                more |= {(at, field) for field in nodes[at].heap()[reference[1]] if field is not None}
            elif (reference[1], at, reference[2]) in tables:
                more.add((reference[1], tables[(reference[1], at, reference[2])]))
        if more == found:
            return found, tables
        found = more


def random_nodes(chance):
    nodes = chance.randint(2, 4)
    out = []
    for at in range(nodes):
        others = [other for other in range(nodes) if other != at]
        pool = [obj(key) for key in range(3)] + [imp(other, entry) for other in others for entry in range(2)]
        heap = {key: tuple(chance.choices([None] + pool, k=chance.randint(0, 3))) for key in range(3)}
        roots = [(key, chance.choice(pool)) for key in range(chance.choice((0, 0, 1, 2)))]
        exports = []
        for other in others:
            for entry in range(2):
                if chance.random() < 0.7:
                    exports.append((other, entry, chance.choice(pool), chance.randint(1, 2)))
        sent = [0 if other == at else 2 for other in range(nodes)]
        seen = [0 if other == at else chance.choice((1, 2, 2, 2)) for other in range(nodes)]
        returned = []
        for other in others:
            if chance.random() < 0.2:
                returned.append((other, 0, chance.randint(1, 2)))
        out.append(StandIn(nodes, at, heap, roots, exports, sent, seen, returned))
    return out


class ReachableTest(unittest.TestCase):
    def test_in_one_node(self):
        nodes = quiet_network(
            ({0: (obj(1), None), 1: (obj(0),), 2: (obj(0),)}, [obj(0)], []),
            ({0: ()}, [], []),
        )
        self.assertEqual(reachable(nodes), [(0, 0), (0, 1)])
        self.assertEqual(dangling(nodes), [])

    def test_nothing(self):
        nodes = quiet_network(({}, [], []), ({}, [], []))
        self.assertEqual(reachable(nodes), [])
        self.assertEqual(dangling(nodes), [])

    def test_over_several_nodes(self):
        # A root of 0 refers to an entry of 1, whose target is an import from 2, and so on to 3.
        nodes = quiet_network(
            ({0: ()}, [imp(1, 0)], []),
            ({0: ()}, [], [(0, 0, imp(2, 0))]),
            ({0: (imp(3, 2),), 1: ()}, [], [(1, 0, obj(0))]),
            ({5: (obj(6),), 6: (), 7: (obj(5),)}, [], [(2, 2, obj(5)), (2, 3, obj(7))]),
        )
        self.assertEqual(reachable(nodes), [(2, 0), (3, 5), (3, 6)])
        self.assertEqual(dangling(nodes), [])

    def test_entries_alone_reach_nothing(self):
        nodes = quiet_network(({0: ()}, [], [(1, 0, obj(0))]), ({}, [], []))
        self.assertEqual(reachable(nodes), [])

    def test_the_entry_is_the_one_for_the_holder(self):
        nodes = quiet_network(
            ({0: (), 1: ()}, [], [(1, 0, obj(0)), (2, 0, obj(1))]),
            ({}, [], []),
            ({}, [imp(0, 0)], []),
        )
        self.assertEqual(reachable(nodes), [(0, 1)])

    def test_rings_over_nodes(self):
        for many in (2, 3, 4):
            rows = ring_over(many)
            self.assertEqual(reachable(quiet_network(*rows)), [])
            for at in range(many):
                rooted = list(rows)
                rooted[at] = (rows[at][0], [obj(0)], rows[at][2])
                self.assertEqual(reachable(quiet_network(*rooted)), [(node, 0) for node in range(many)])
                self.assertEqual(dangling(quiet_network(*rooted)), [])

    def test_a_long_way_to_and_fro(self):
        many = 400
        here = {key: (imp(1, key),) for key in range(many)}
        there = {key: (imp(0, key + 1),) for key in range(many)}
        nodes = quiet_network(
            (here, [obj(0)], [(1, key, obj(key)) for key in range(1, many)]),
            (there, [], [(0, key, obj(key)) for key in range(many)]),
        )
        self.assertEqual(reachable(nodes), [(at, key) for at in range(2) for key in range(many)])
        self.assertEqual(dangling(nodes), [(1, 0, many)])


class DanglingTest(unittest.TestCase):
    def test_root_and_field(self):
        nodes = quiet_network(
            ({0: (imp(1, 3), imp(1, 0))}, [obj(0), imp(1, 2)], []),
            ({0: ()}, [], [(0, 0, obj(0))]),
        )
        self.assertEqual(dangling(nodes), [(0, 1, 2), (0, 1, 3)])
        self.assertEqual(reachable(nodes), [(0, 0), (1, 0)])

    def test_by_way_of_other_nodes(self):
        nodes = quiet_network(
            ({}, [imp(1, 0)], []),
            ({0: (imp(2, 1), imp(0, 6))}, [], [(0, 0, obj(0)), (2, 0, imp(2, 9))]),
            ({0: ()}, [], [(1, 0, obj(0)), (0, 1, obj(0))]),
        )
        self.assertEqual(dangling(nodes), [(1, 0, 6), (1, 2, 1)])

    def test_only_what_roots_lead_to(self):
        nodes = quiet_network(({0: (imp(1, 0),)}, [], [(1, 0, obj(0))]), ({}, [], []))
        self.assertEqual(dangling(nodes), [])

    def test_an_entry_for_another_node_does_not_count(self):
        nodes = quiet_network(({}, [imp(2, 0)], []), ({}, [imp(2, 0)], []), ({0: ()}, [], [(1, 0, obj(0))]))
        self.assertEqual(dangling(nodes), [(0, 2, 0)])

    def test_several_holders_rise(self):
        nodes = quiet_network(({}, [imp(2, 10), imp(2, 9)], []), ({}, [imp(0, 4)], []), ({}, [imp(0, 0)], []))
        self.assertEqual(dangling(nodes), [(0, 2, 9), (0, 2, 10), (1, 0, 4), (2, 0, 0)])


class KeptByTest(unittest.TestCase):
    def test_alone_it_keeps_what_collecting_keeps(self):
        for many in (2, 3, 4):
            nodes = quiet_network(*ring_over(many))
            for at in range(many):
                self.assertEqual(kept_by(nodes, (at,)), [(at, 0)])
        nodes = quiet_network(
            ({0: (), 1: (obj(0),), 2: (), 3: (obj(2),)}, [obj(1)], [(1, 0, obj(2))]),
            ({0: ()}, [], []),
        )
        self.assertEqual(kept_by(nodes, (0,)), [(0, 0), (0, 1), (0, 2)])
        self.assertEqual(kept_by(nodes, (1,)), [])

    def test_a_ring_is_dropped_only_by_all(self):
        for many in (2, 3, 4):
            nodes = quiet_network(*ring_over(many))
            for size in range(1, many):
                for group in itertools.combinations(range(many), size):
                    self.assertEqual(kept_by(nodes, group), [(at, 0) for at in group])
            self.assertEqual(kept_by(nodes, tuple(range(many))), [])

    def test_a_ring_of_two_within_three(self):
        rows = ring_over(2)
        nodes = quiet_network(*rows, ({}, [], []))
        self.assertEqual(kept_by(nodes, (0, 1)), [])
        self.assertEqual(kept_by(nodes, (0, 2)), [(0, 0)])
        self.assertEqual(kept_by(nodes, (0, 1, 2)), [])
        # As soon as 2 may hold a part of it, the two alone have to keep all of it.
        nodes = quiet_network((*rows[0][:2], [*rows[0][2], (2, 0, obj(0))]), rows[1], ({}, [], []))
        self.assertEqual(kept_by(nodes, (0, 1)), [(0, 0), (1, 0)])
        self.assertEqual(kept_by(nodes, (0, 1, 2)), [])

    def test_a_root_keeps_the_ring(self):
        rows = ring_over(3)
        rows[1] = (rows[1][0], [obj(0)], rows[1][2])
        nodes = quiet_network(*rows)
        self.assertEqual(kept_by(nodes, (0, 1, 2)), [(0, 0), (1, 0), (2, 0)])

    def test_a_message_on_its_way_keeps(self):
        for seen, kept in ((0, [(0, 0)]), (1, [])):
            nodes = [
                StandIn(2, 0, {0: ()}, [], [(1, 0, obj(0), 1)], (0, 1), (0, 0)),
                StandIn(2, 1, sent=(0, 0), seen=(seen, 0)),
            ]
            self.assertEqual(kept_by(nodes, (0, 1)), kept)

    def test_a_reference_sent_back_keeps(self):
        for seen, kept in ((1, [(0, 0)]), (2, [])):
            nodes = [
                StandIn(2, 0, {0: ()}, [], [(1, 0, obj(0), 1)], (0, 1), (0, seen)),
                StandIn(2, 1, sent=(2, 0), seen=(1, 0), returned=[(0, 0, 2)]),
            ]
            self.assertEqual(kept_by(nodes, (0, 1)), kept)

    def test_only_live_entries_keep_and_no_other_ones_objects(self):
        nodes = quiet_network(
            ({3: (obj(4),), 4: (), 8: ()}, [], [(1, 0, obj(3)), (1, 1, obj(8))]),
            ({0: (imp(0, 0),), 1: ()}, [obj(0)], []),
        )
        self.assertEqual(kept_by(nodes, (0, 1)), [(0, 3), (0, 4), (1, 0)])
        self.assertEqual(kept_by(nodes, (0,)), [(0, 3), (0, 4), (0, 8)])
        self.assertEqual(kept_by(nodes, (1,)), [(1, 0)])

    def test_no_group(self):
        nodes = quiet_network(*ring_over(3))
        for group in ((), (1, 0), (0, 0), (0, 2, 1), (0, 1, 1), (3,), (0, 3), (-1,), (-1, 0), (0, 1, 2, 3), (2, 99)):
            with self.assertRaises(OutOfRange) as caught:
                kept_by(nodes, group)
            self.assertEqual(caught.exception.name, "group")
            self.assertIsInstance(caught.exception, KeepError)

    def test_every_group_of_four(self):
        nodes = quiet_network(*ring_over(4))
        for size in range(1, 5):
            for group in itertools.product(range(-1, 5), repeat=size):
                proper = all(0 <= one < 4 for one in group) and list(group) == sorted(set(group))
                if proper:
                    kept_by(nodes, group)
                else:
                    self.assertRaises(OutOfRange, kept_by, nodes, group)


class AllNodesTest(unittest.TestCase):
    def test_reached_and_kept_against_the_words(self):
        chance = random.Random(12)
        for _ in range(200):
            nodes = random_nodes(chance)
            found, tables = reached_by_trying(nodes)
            self.assertEqual(reachable(nodes), sorted((at, one[1]) for at, one in found if one[0] == "object"))
            gone = {(at, *one[1:]) for at, one in found if one[0] == "import" and (one[1], at, one[2]) not in tables}
            self.assertEqual(dangling(nodes), sorted(gone))
            for size in range(1, len(nodes) + 1):
                for group in itertools.combinations(range(len(nodes)), size):
                    self.check_kept(nodes, group)

    def check_kept(self, nodes, group):
        names = live([nodes[at].report() for at in group])
        kept = []
        for at in group:
            exports = [one for one in nodes[at].exports() if (at, one[0], one[1]) in names]
            node = StandIn(len(nodes), at, nodes[at].heap(), nodes[at].roots(), exports)
            kept += [(at, key) for key in node.kept()]
        self.assertEqual(kept_by(nodes, group), kept)
        if len(group) == 1:
            self.assertEqual(kept, [(group[0], key) for key in nodes[group[0]].kept()])

    def test_nothing_is_changed_and_lists_are_new(self):
        nodes = quiet_network(*ring_over(3))
        rows = list(nodes)
        before = [(node.heap(), node.roots(), node.exports(), node.report()) for node in nodes]
        for call in (reachable, dangling, lambda some: kept_by(some, (0, 1))):
            first = call(nodes)
            expected = list(first)
            first.append("changed")
            self.assertEqual(call(nodes), expected)
            self.assertIs(type(first), list)
        self.assertEqual(nodes, rows)
        self.assertEqual([(node.heap(), node.roots(), node.exports(), node.report()) for node in nodes], before)


if __name__ == "__main__":
    unittest.main()
