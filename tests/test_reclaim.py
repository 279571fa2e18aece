"""Points 14 and 17: what a node removes by the reports of a group, and which reports it refuses."""

import unittest

from keptbywitness.errors import Inconsistent, NoReport
from keptbywitness.groups import garbage, live
from keptbywitness.nodes import Node, replay
from cases import RefusalsCase
from models import tell
from standins import imp, obj


def pass_on(nodes, sender, receiver, *roots):
    """A message is sent and received; the new roots."""
    return nodes[receiver].perform(("receive", nodes[sender].perform(("send", receiver, roots))))


def greet(nodes):
    """A message without references on every way, first all sent, then all received."""
    ways = [(one, other) for one in range(len(nodes)) for other in range(len(nodes)) if one != other]
    messages = [(other, nodes[one].perform(("send", other, ()))) for one, other in ways]
    for other, message in messages:
        nodes[other].perform(("receive", message))


def ring(many, members, rooted=None):
    """Nodes of which the members have an object 0 each, whose field has that of the next one; one root or none."""
    nodes = [Node(many, number) for number in range(many)]
    for member in members:
        nodes[member].perform(("make", 1))
    for at, member in enumerate(members):
        (root,) = pass_on(nodes, members[(at + 1) % len(members)], member, 0)
        nodes[member].perform(("write", 0, 0, root))
    for member in members:
        for root, reference in nodes[member].roots():
            if member != rooted or reference != obj(0):
                nodes[member].perform(("drop", root))
    greet(nodes)
    return nodes


def report_all(nodes, group):
    return [nodes[member].perform(("report",)) for member in group]


class RingTest(unittest.TestCase):
    def test_rings_go_only_by_reports_of_all_of_them(self):
        for many, members in ((2, (0, 1)), (3, (0, 1, 2)), (4, (0, 1, 2, 3)), (3, (0, 2)), (4, (1, 2, 3))):
            nodes = ring(many, members)
            for member in members[1:]:
                reports = report_all(nodes, members[1:])
                self.assertEqual(nodes[member].reclaim(reports), ())
                self.assertEqual(nodes[member].perform(("collect",)), ((), ()))
            reports = report_all(nodes, members)
            self.assertEqual(len(garbage(reports)), len(members))
            for at, member in enumerate(members):
                before = members[at - 1]
                self.assertEqual(nodes[member].reclaim(reports), ((before, 0),))
                self.assertEqual(nodes[member].history()[-1], ("remove", ((before, 0),)))
                following = members[(at + 1) % len(members)]
                self.assertEqual(nodes[member].perform(("collect",)), ((0,), ((following, 0),)))

    def test_a_root_of_one_keeps_the_ring(self):
        for rooted in range(3):
            nodes = ring(3, (0, 1, 2), rooted)
            reports = report_all(nodes, (0, 1, 2))
            self.assertEqual(live(reports), [(0, 2, 0), (1, 0, 0), (2, 1, 0)])
            self.assertEqual([node.reclaim(reports) for node in nodes], [(), (), ()])
            self.assertEqual([node.perform(("collect",)) for node in nodes], [((), ())] * 3)
            nodes[rooted].perform(("drop", 0))
            # The reports of before do not know this, and may be used all the same.
            self.assertEqual([node.reclaim(reports) for node in nodes], [(), (), ()])
            reports = report_all(nodes, (0, 1, 2))
            self.assertEqual([node.reclaim(reports) for node in nodes], [((2, 0),), ((0, 0),), ((1, 0),)])


class WhatIsRemovedTest(RefusalsCase):
    def pair(self):
        """0 has objects 0 to 3, of which 1 holds 2 by a root; entries 0 to 3 for 1 in this order."""
        nodes = [Node(2, 0), Node(2, 1)]
        for _ in range(4):
            nodes[0].perform(("make", 0))
        pass_on(nodes, 0, 1, 0, 1, 2, 3)
        for root in (0, 1, 3):
            nodes[1].perform(("drop", root))
        return nodes

    def test_only_garbage_entries(self):
        nodes = self.pair()
        reports = report_all(nodes, (0, 1))
        before = tell(nodes[0])
        self.assertEqual(nodes[0].reclaim(reports), ((1, 0), (1, 1), (1, 3)))
        told = tell(nodes[0])
        self.assertEqual(told["exports"], [(1, 2, obj(2), 1)])
        self.assertEqual(told["history"], before["history"] + [("remove", ((1, 0), (1, 1), (1, 3)))])
        self.assertEqual(told["last_report"], before["last_report"])
        for name in ("roots", "heap", "imports", "sent", "seen", "returned"):
            self.assertEqual(told[name], before[name])
        self.assertEqual(tell(replay(2, 0, told["history"])), told)

    def test_nothing_is_an_event_too(self):
        nodes = self.pair()
        reports = report_all(nodes, (0, 1))
        self.assertEqual(nodes[1].reclaim(reports), ())
        self.assertEqual(nodes[1].history()[-1], ("remove", ()))
        nodes[0].reclaim(reports)
        self.assertEqual(nodes[0].reclaim(reports), ())
        self.assertEqual(nodes[0].history()[-2:], [("remove", ((1, 0), (1, 1), (1, 3))), ("remove", ())])

    def test_a_node_alone_removes_nothing(self):
        nodes = self.pair()
        self.assertEqual(nodes[0].reclaim(report_all(nodes, (0,))), ())
        self.assertEqual(len(nodes[0].exports()), 4)

    def test_entries_for_strangers_stay(self):
        nodes = [Node(3, number) for number in range(3)]
        nodes[0].perform(("make", 0))
        for to in (1, 2):
            nodes[to].perform(("drop", *pass_on(nodes, 0, to, 0)))
        self.assertEqual(nodes[0].reclaim(report_all(nodes, (0, 2))), ((2, 0),))
        self.assertEqual(nodes[0].reclaim(report_all(nodes, (0, 1))), ((1, 0),))

    def test_an_entry_that_was_carried_again_stays(self):
        nodes = self.pair()
        reports = report_all(nodes, (0, 1))
        nodes[0].perform(("send", 1, (1,)))
        self.assertEqual(nodes[0].reclaim(reports), ((1, 0), (1, 3)))
        self.assertEqual([row[1:] for row in nodes[0].exports()], [(1, obj(1), 2), (2, obj(2), 1)])

    def test_entries_that_are_gone_since_or_new(self):
        nodes = self.pair()
        reports = report_all(nodes, (0, 1))
        nodes[1].perform(("drop", 2))
        nodes[1].perform(("collect",))
        pass_on(nodes, 1, 0)
        self.assertEqual(nodes[0].exports(), [])
        # The object gets an entry of another number, of which the reports tell nothing.
        nodes[0].perform(("send", 1, (0,)))
        self.assertEqual(nodes[0].exports(), [(1, 4, obj(0), 2)])
        self.assertEqual(nodes[0].reclaim(reports), ())
        self.assertEqual(nodes[0].exports(), [(1, 4, obj(0), 2)])

    def test_an_old_report_of_the_other_one(self):
        nodes = self.pair()
        other = nodes[1].perform(("report",))
        # What 1 does after its report does not matter: it cannot get back what it let go.
        nodes[1].perform(("send", 0, (2,)))
        nodes[1].perform(("drop", 2))
        nodes[1].perform(("report",))
        self.assertEqual(nodes[0].reclaim([nodes[0].perform(("report",)), other]), ((1, 0), (1, 1), (1, 3)))

    def test_a_report_from_before_a_message_was_seen(self):
        nodes = self.pair()
        early = Node(2, 1).perform(("report",))
        self.assertEqual(nodes[0].reclaim([nodes[0].perform(("report",)), early]), ())

    def test_what_was_sent_back_stays_until_it_is_seen(self):
        nodes = self.pair()
        message = nodes[1].perform(("send", 0, (2,)))
        nodes[1].perform(("drop", 2))
        for root in range(4):
            nodes[0].perform(("drop", root))
        self.assertEqual(nodes[0].reclaim(report_all(nodes, (0, 1))), ((1, 0), (1, 1), (1, 3)))
        self.assertEqual(nodes[0].perform(("collect",)), ((0, 1, 3), ()))
        self.assertEqual(nodes[0].perform(("receive", message)), (4,))
        self.assertEqual(nodes[0].roots(), [(4, obj(2))])
        self.assertEqual(nodes[0].reclaim(report_all(nodes, (0, 1))), ((1, 2),))
        self.assertEqual(nodes[0].perform(("collect",)), ((), ()))

    def test_a_chain_over_three_nodes(self):
        nodes = [Node(3, number) for number in range(3)]
        nodes[0].perform(("make", 0))
        (root,) = pass_on(nodes, 0, 1, 0)
        (last,) = pass_on(nodes, 1, 2, root)
        nodes[0].perform(("drop", 0))
        nodes[1].perform(("drop", root))
        reports = report_all(nodes, (0, 1, 2))
        self.assertEqual([nodes[at].reclaim(reports) for at in range(3)], [(), (), ()])
        nodes[2].perform(("drop", last))
        reports = report_all(nodes, (0, 1, 2))
        self.assertEqual([nodes[at].reclaim(reports) for at in range(3)], [((1, 0),), ((2, 0),), ()])
        self.assertEqual(nodes[1].roots() + nodes[2].roots(), [])
        self.assertEqual(nodes[1].perform(("collect",)), ((), ((0, 0),)))
        self.assertEqual(nodes[2].perform(("collect",)), ((), ((1, 0),)))
        self.assertEqual(nodes[2].imports(), [])


class RefusedReportsTest(RefusalsCase):
    def refused(self, node, reports, error):
        self.refuses_call(node, error, None, node.reclaim, reports)

    def test_no_report_of_its_own(self):
        nodes = [Node(3, number) for number in range(3)]
        others = report_all(nodes, (1, 2))
        for reports in ([], others, [nodes[0].report()], [nodes[0].report(), *others]):
            self.refused(nodes[0], reports, NoReport)
        nodes[0].perform(("report",))
        for reports in ([], others, others[:1]):
            self.refused(nodes[0], reports, NoReport)

    def test_its_own_must_be_the_last_one(self):
        nodes = [Node(2, 0), Node(2, 1)]
        first, other = report_all(nodes, (0, 1))
        nodes[0].perform(("send", 1, ()))
        self.assertEqual(nodes[0].reclaim([first, other]), ())
        self.refused(nodes[0], [nodes[0].report(), other], NoReport)
        second = nodes[0].perform(("report",))
        self.refused(nodes[0], [first, other], NoReport)
        self.refused(nodes[0], [first], NoReport)
        self.assertEqual(nodes[0].reclaim([second, other]), ())
        # A report that says the same cannot be told from the last one.
        nodes[0].perform(("report",))
        self.assertEqual(nodes[0].reclaim([second, other]), ())

    def test_inconsistent(self):
        nodes = [Node(3, number) for number in range(3)]
        early = report_all(nodes, (0, 1, 2))
        pass_on(nodes, 0, 1)
        late = report_all(nodes, (0, 1, 2))
        self.assertEqual(late[1][2], (1, 0, 0))
        self.refused(nodes[1], [early[0], late[1], late[2]], Inconsistent)
        self.refused(nodes[1], [early[0], late[1]], Inconsistent)
        # Also if it is between others, and the node's own one is an old one or none: this comes first.
        self.refused(nodes[2], [early[0], late[1], late[2]], Inconsistent)
        self.refused(nodes[2], [early[0], late[1]], Inconsistent)
        self.refused(nodes[0], [early[0], late[1]], Inconsistent)
        for reports in (late, [late[0], early[1], late[2]], late[:2], late[::2]):
            self.assertEqual(nodes[0].reclaim(list(reports)), ())

    def test_the_references_stay_what_they_were(self):
        nodes = ring(2, (0, 1))
        reports = report_all(nodes, (0, 1))
        nodes[0].perform(("report",))
        nodes[0].perform(("send", 1, ()))
        nodes[0].perform(("report",))
        self.refused(nodes[0], reports, NoReport)
        self.assertEqual(nodes[0].heap(), {0: (imp(1, 0),)})
        self.assertEqual(nodes[0].reclaim([nodes[0].last_report(), reports[1]]), ((1, 0),))


if __name__ == "__main__":
    unittest.main()
