"""Points 11, 12, 16, 17 and 25 over drawn executions: nothing that can be reached is ever removed."""

import random
import unittest

from keptbywitness.groups import dangling, garbage, is_consistent, kept_by, live, reachable
from keptbywitness.nodes import Node
from draws import Draw
from models import groups_of, reached, tell
from standins import imp, obj


def used_entries(nodes, found):
    """The entries and the imports by which something is reachable."""
    imports = {(at, *rest) for at, kind, *rest in found if kind == "import"}
    return imports, {(owner, holder, entry) for holder, owner, entry in imports}


class SafetyTest(unittest.TestCase):
    def run_drawn(self, seed, many, reclaim, check):
        chance = random.Random(seed)
        for _ in range(many):
            draw = Draw(chance, chance.randint(2, 4), reclaim)
            for _ in range(120):
                before = reached(draw.nodes)
                steps = len(draw.steps)
                draw.add(1)
                if len(draw.steps) > steps:
                    check(draw, before)

    def test_no_event_removes_what_is_reachable(self):
        removed = {"collect": 0, "reclaim": 0, "receive": 0}

        def check(draw, before):
            (at, event), given = draw.steps[-1], draw.given[-1]
            after = reached(draw.nodes)
            imports, entries = used_entries(draw.nodes, after if event[0] in ("drop", "write") else before)
            tables = {(owner, *row[:2]) for owner, node in enumerate(draw.nodes) for row in node.exports()}
            self.assertLessEqual(entries, tables)
            self.assertLessEqual(imports, {(holder, *row) for holder, node in enumerate(draw.nodes) for row in node.imports()})
            self.assertEqual(dangling(draw.nodes), [])
            if event[0] not in ("drop", "write"):
                self.assertLessEqual(before, after)
            if event[0] in ("collect", "reclaim", "report", "send"):
                self.assertEqual(before, after)
            self.assertEqual(reachable(draw.nodes), sorted((one[0], one[2]) for one in after if one[1] == "object"))
            for owner, key in reachable(draw.nodes):
                self.assertIn(key, draw.nodes[owner].heap())
            removed["collect"] += event[0] == "collect" and given != ((), ())
            removed["reclaim"] += event[0] == "reclaim" and given != ()
            removed["receive"] += event[0] == "receive" and given is not None

        self.run_drawn(25, 40, 3, check)
        for word, many in removed.items():
            self.assertGreater(many, 10, word)

    def test_what_groups_keep(self):
        def check(draw, before):
            nodes = draw.nodes
            if len(draw.steps) % 12:
                return
            kept = {group: kept_by(nodes, group) for group in groups_of(nodes)}
            for group, rows in kept.items():
                members = [one for one in reachable(nodes) if one[0] in group]
                self.assertLessEqual(set(members), set(rows))
                for smaller in kept:
                    if set(smaller) < set(group):
                        self.assertLessEqual({row for row in rows if row[0] in smaller}, set(kept[smaller]))
                reports = [nodes[member].report() for member in group]
                self.assertTrue(is_consistent(reports))
                names = {(at, *row[:2]) for at in group for row in nodes[at].exports()}
                self.assertEqual(sorted(names), sorted(live(reports) + garbage(reports)))
            for at, node in enumerate(nodes):
                self.assertEqual(kept[(at,)], [(at, key) for key in node.kept()])

        self.run_drawn(16, 40, 2, check)

    def test_alone_a_node_keeps_what_it_would_keep_if_it_collected(self):
        def check(draw, before):
            at = draw.steps[-1][0]
            node = draw.nodes[at]
            if draw.steps[-1][1] == ("collect",):
                self.assertEqual(node.kept(), sorted(node.heap()))
                self.assertEqual(kept_by(draw.nodes, (at,)), [(at, key) for key in sorted(node.heap())])
                told = tell(node)
                self.assertEqual(node.perform(("collect",)), ((), ()))
                draw.steps.append((at, ("collect",)))
                draw.given.append(((), ()))
                self.assertEqual({**told, "history": told["history"] + [("collect",)]}, tell(node))

        self.run_drawn(11, 15, 1, check)


class RealNodesTest(unittest.TestCase):
    """kept_by, reachable and dangling meet nodes that have come there by events."""

    def test_an_object_passed_over_three_nodes(self):
        nodes = [Node(3, number) for number in range(3)]
        nodes[0].perform(("make", 1))
        nodes[0].perform(("make", 0))
        nodes[0].perform(("write", 0, 0, 1))
        message = nodes[0].perform(("send", 1, (0,)))
        nodes[0].perform(("drop", 0))
        nodes[0].perform(("drop", 1))
        # On its way, the object is reachable by no root; but everybody has to keep it.
        self.assertEqual(reachable(nodes), [])
        for group in ((0,), (0, 1), (0, 2), (0, 1, 2)):
            self.assertEqual(kept_by(nodes, group), [(0, 0), (0, 1)])
        for group in ((1,), (2,), (1, 2)):
            self.assertEqual(kept_by(nodes, group), [])
        nodes[1].perform(("receive", message))
        self.assertEqual(reachable(nodes), [(0, 0), (0, 1)])
        nodes[2].perform(("receive", nodes[1].perform(("send", 2, (0,)))))
        nodes[1].perform(("drop", 0))
        self.assertEqual(reachable(nodes), [(0, 0), (0, 1)])
        self.assertEqual(dangling(nodes), [])
        self.assertEqual(kept_by(nodes, (0, 1, 2)), [(0, 0), (0, 1)])
        nodes[2].perform(("drop", 0))
        self.assertEqual(reachable(nodes), [])
        self.assertEqual(kept_by(nodes, (0, 1, 2)), [])
        # Who 2 is no member with cannot know.
        self.assertEqual(kept_by(nodes, (0, 1)), [(0, 0), (0, 1)])
        self.assertEqual(kept_by(nodes, (0, 2)), [(0, 0), (0, 1)])

    def test_dangling_after_an_entry_was_taken_away(self):
        nodes = [Node(2, number) for number in range(2)]
        nodes[0].perform(("make", 0))
        nodes[1].perform(("receive", nodes[0].perform(("send", 1, (0,)))))
        self.assertEqual(dangling(nodes), [])
        nodes[0].perform(("remove", ((1, 0),)))
        self.assertEqual(nodes[1].roots(), [(0, imp(0, 0))])
        self.assertEqual(dangling(nodes), [(1, 0, 0)])
        self.assertEqual(reachable(nodes), [(0, 0)])
        nodes[0].perform(("drop", 0))
        self.assertEqual(reachable(nodes), [])
        nodes[1].perform(("drop", 0))
        self.assertEqual(dangling(nodes), [])

    def test_the_target_of_an_entry_is_a_reference_to_a_third_node(self):
        nodes = [Node(3, number) for number in range(3)]
        nodes[0].perform(("make", 0))
        nodes[1].perform(("receive", nodes[0].perform(("send", 1, (0,)))))
        nodes[2].perform(("receive", nodes[1].perform(("send", 2, (0,)))))
        self.assertEqual(nodes[1].exports(), [(2, 0, imp(0, 0), 1)])
        nodes[0].perform(("drop", 0))
        nodes[1].perform(("drop", 0))
        nodes[1].perform(("collect",))
        self.assertEqual(reachable(nodes), [(0, 0)])
        self.assertEqual(nodes[0].exports()[0][2], obj(0))


if __name__ == "__main__":
    unittest.main()
