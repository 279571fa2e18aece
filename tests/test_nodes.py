"""Points 4, 6, 10, 11 and 13: the events of a node but for messages, by what they return and what it tells."""

import unittest

from keptbywitness import nodes as nodes_file
from keptbywitness.errors import NoEntry, NoField, NoRoot, NotObject, OutOfRange
from keptbywitness.nodes import Node
from cases import RefusalsCase, after, message_to
from models import tell
from standins import imp, make_report, obj


IMPORTS = message_to(0, 1, 1, (("export", 7), ("export", 3)))


class NewNodeTest(RefusalsCase):
    def test_limits(self):
        self.assertEqual((nodes_file.FIELDS_MOST, nodes_file.CARRIED_MOST), (4, 4))

    def test_what_a_new_node_tells(self):
        for nodes in (2, 3, 4):
            for number in range(nodes):
                node = Node(nodes, number)
                none = (0,) * nodes
                self.assertEqual(tell(node), {
                    "number": number, "nodes": nodes, "roots": [], "heap": {}, "exports": [], "imports": [],
                    "sent": none, "seen": none, "returned": [], "report": (number, none, none, (), (), ()),
                    "last_report": None, "history": [], "kept": [],
                })

    def test_bounds(self):
        for nodes, number, name in (
            (1, 0, "nodes"), (5, 0, "nodes"), (0, 0, "nodes"), (-2, 0, "nodes"), (2, 2, "number"), (4, 4, "number"),
            (3, -1, "number"), (5, 5, "nodes"), (1, -1, "nodes"),
        ):
            with self.assertRaises(OutOfRange) as caught:
                Node(nodes, number)
            self.assertEqual(caught.exception.name, name)


class MakeTest(RefusalsCase):
    def test_every_number_of_fields(self):
        node = Node(2, 1)
        for fields in range(5):
            self.assertEqual(node.perform(("make", fields)), fields)
        self.assertEqual(node.heap(), {fields: (None,) * fields for fields in range(5)})
        self.assertEqual(node.roots(), [(fields, obj(fields)) for fields in range(5)])
        self.assertEqual(node.history(), [("make", fields) for fields in range(5)])

    def test_too_many_and_too_few(self):
        node = after([("make", 1)])
        for fields in (-1, 5, 100):
            self.refuses(node, ("make", fields), OutOfRange, "fields")
        self.assertEqual(node.perform(("make", 0)), 1)

    def test_numbers_are_never_given_again(self):
        node = after([("make", 0), ("make", 0), ("drop", 1), ("drop", 0), ("collect",)])
        self.assertEqual((node.heap(), node.roots()), ({}, []))
        self.assertEqual(node.perform(("make", 2)), 2)
        self.assertEqual(node.heap(), {2: (None, None)})
        self.assertEqual(node.roots(), [(2, obj(2))])


class ReadAndWriteTest(RefusalsCase):
    def test_write_then_read(self):
        node = after([("make", 2), ("make", 0)])
        self.assertIsNone(node.perform(("write", 0, 1, 1)))
        self.assertEqual(node.heap(), {0: (None, obj(1)), 1: ()})
        self.assertEqual(node.perform(("read", 0, 1)), 2)
        self.assertEqual(node.roots(), [(0, obj(0)), (1, obj(1)), (2, obj(1))])

    def test_read_of_an_empty_field_is_an_event(self):
        node = after([("make", 2)])
        self.assertIsNone(node.perform(("read", 0, 1)))
        self.assertEqual(node.roots(), [(0, obj(0))])
        self.assertEqual(node.history(), [("make", 2), ("read", 0, 1)])
        self.assertEqual(node.perform(("make", 0)), 1)

    def test_write_of_itself_of_none_and_of_an_import(self):
        node = after([("make", 4), IMPORTS])
        for field, other in ((0, 0), (1, 1), (3, 2), (2, 0)):
            node.perform(("write", 0, field, other))
        self.assertEqual(node.heap(), {0: (obj(0), imp(1, 7), obj(0), imp(1, 3))})
        self.assertIsNone(node.perform(("write", 0, 2, None)))
        self.assertIsNone(node.perform(("write", 0, 2, None)))
        self.assertEqual(node.heap(), {0: (obj(0), imp(1, 7), None, imp(1, 3))})
        self.assertEqual(node.perform(("read", 0, 3)), 3)
        self.assertEqual(node.roots()[-1], (3, imp(1, 3)))
        self.assertEqual(node.history()[-3:], [("write", 0, 2, None)] * 2 + [("read", 0, 3)])

    def test_write_through_another_root_of_the_object(self):
        node = after([("make", 1), ("write", 0, 0, 0), ("read", 0, 0), ("drop", 0), ("make", 0), ("write", 1, 0, 2)])
        self.assertEqual(node.heap(), {0: (obj(1),), 1: ()})

    def test_a_root_that_is_gone_later_leaves_the_field(self):
        node = after([("make", 1), ("make", 1), ("write", 0, 0, 1), ("drop", 1), ("collect",)])
        self.assertEqual(node.heap(), {0: (obj(1),), 1: (None,)})

    def test_refused_reads(self):
        node = after([("make", 2), ("make", 0), ("drop", 1), IMPORTS])
        for root in (-1, 1, 4):
            self.refuses(node, ("read", root, 0), NoRoot)
            self.refuses(node, ("read", root, 9), NoRoot)
        for root in (2, 3):
            self.refuses(node, ("read", root, 0), NotObject)
            self.refuses(node, ("read", root, -1), NotObject)
        for field in (-1, 2, 4):
            self.refuses(node, ("read", 0, field), NoField)

    def test_refused_writes_in_order(self):
        node = after([("make", 2), ("make", 0), IMPORTS, ("drop", 3)])
        for other in (0, None, 3, -1):
            self.refuses(node, ("write", 3, 0, other), NoRoot)
            self.refuses(node, ("write", 2, 5, other), NotObject)
            self.refuses(node, ("write", 0, 2, other), NoField)
            self.refuses(node, ("write", 0, -1, other), NoField)
            self.refuses(node, ("write", 1, 0, other), NoField)
        for other in (3, 4, -1):
            self.refuses(node, ("write", 0, 1, other), NoRoot)


class NoEventTest(RefusalsCase):
    def test_what_is_no_event_is_not_in_the_history(self):
        node = after([("make", 1)])
        for event in (("jump",), ("make",), ("drop", 0, 0), ("collect", 1), ("reclaim", ())):
            self.refuses(node, event, OutOfRange, "event")


class DropTest(RefusalsCase):
    def test_drop(self):
        node = after([("make", 0), ("make", 0)])
        self.assertIsNone(node.perform(("drop", 0)))
        self.assertEqual(node.roots(), [(1, obj(1))])
        self.assertEqual(node.heap(), {0: (), 1: ()})
        self.assertEqual(node.kept(), [1])
        self.refuses(node, ("drop", 0), NoRoot)
        self.refuses(node, ("drop", 2), NoRoot)
        self.refuses(node, ("drop", -1), NoRoot)
        self.assertEqual(node.history(), [("make", 0), ("make", 0), ("drop", 0)])


class CollectTest(RefusalsCase):
    def test_roots_fields_and_entries_keep(self):
        # 0 is rooted and leads to 1; 2 is the target of an entry and leads to 3; 4 and 5 hold each other.
        node = after([
            ("make", 1), ("make", 0), ("make", 1), ("make", 0), ("make", 1), ("make", 1),
            ("write", 0, 0, 1), ("write", 2, 0, 3), ("write", 4, 0, 5), ("write", 5, 0, 4), ("send", 1, (2,)),
            *(("drop", root) for root in range(1, 6)),
        ])
        self.assertEqual(node.kept(), [0, 1, 2, 3])
        self.assertEqual(sorted(node.heap()), [0, 1, 2, 3, 4, 5])
        self.assertEqual(node.perform(("collect",)), ((4, 5), ()))
        self.assertEqual(node.heap(), {0: (obj(1),), 1: (), 2: (obj(3),), 3: ()})
        self.assertEqual(node.kept(), [0, 1, 2, 3])

    def test_imports(self):
        # Of six imports one is rooted, one lies in a field, one is the target of an entry.
        items = tuple(("export", entry) for entry in (5, 4, 3))
        node = after([
            message_to(0, 1, 1, items), message_to(0, 2, 1, items), ("make", 1), ("write", 6, 0, 1), ("send", 1, (5,)),
            *(("drop", root) for root in (0, 1, 2, 4, 5)),
        ])
        self.assertEqual(node.imports(), [(1, 3), (1, 4), (1, 5), (2, 3), (2, 4), (2, 5)])
        self.assertEqual(node.perform(("collect",)), ((), ((1, 3), (1, 5), (2, 4))))
        self.assertEqual(node.imports(), [(1, 4), (2, 3), (2, 5)])

    def test_twice_removes_nothing_the_second_time(self):
        node = after([("make", 1), IMPORTS, ("make", 0), ("drop", 0), ("drop", 1)])
        self.assertEqual(node.perform(("collect",)), ((0,), ((1, 7),)))
        before = tell(node)
        self.assertEqual(node.perform(("collect",)), ((), ()))
        told = tell(node)
        self.assertEqual(told.pop("history"), before.pop("history") + [("collect",)])
        self.assertEqual(told, before)

    def test_of_nothing(self):
        node = Node(2, 0)
        self.assertEqual(node.perform(("collect",)), ((), ()))
        self.assertEqual(node.history(), [("collect",)])

    def test_an_import_leads_no_further_in_the_node(self):
        # 1 holds an import of 0's own making only by way of 1; in node 0 it refers to nothing.
        node = after([("make", 0), ("send", 1, (0,)), message_to(0, 1, 1, (("export", 0),), 1, ()), ("drop", 0)])
        self.assertEqual(node.exports(), [])
        self.assertEqual(node.roots(), [(1, imp(1, 0))])
        self.assertEqual(node.perform(("collect",)), ((0,), ()))

    def test_a_long_chain(self):
        many = 3000
        events = [("make", 1)]
        for root in range(1, many):
            events += [("make", 1), ("write", root, 0, root - 1), ("drop", root - 1)]
        node = after(events)
        self.assertEqual(node.perform(("collect",)), ((), ()))
        self.assertEqual(node.kept(), list(range(many)))
        node.perform(("write", many - 1, 0, None))
        self.assertEqual(node.perform(("collect",)), (tuple(range(many - 1)), ()))


class ReportTest(RefusalsCase):
    EVENTS = [
        ("make", 2), ("make", 1), message_to(0, 1, 4, (("export", 7), ("export", 3), ("export", 8))),
        message_to(0, 2, 6, (("export", 9),)), ("write", 0, 0, 1), ("write", 1, 0, 2), ("write", 0, 1, 5),
        ("send", 2, (1,)), ("send", 1, ()), ("send", 1, (0, 5, 3)), ("send", 2, (3, 5)), ("drop", 0),
    ]
    REPORT = (
        0, (0, 2, 2), (0, 4, 6), ((1, 3), (1, 7), (1, 8), (2, 9)),
        ((1, 0, 2, ((1, 7), (2, 9))), (1, 1, 2, ((2, 9),)), (2, 0, 1, ((1, 7),)), (2, 1, 2, ((1, 3),))),
        ((1, 3, 2), (2, 9, 2)),
    )

    def test_all_parts(self):
        node = after(self.EVENTS)
        self.assertEqual(node.report(), self.REPORT)
        self.assertIsNone(node.last_report())
        self.assertEqual(node.history(), self.EVENTS)
        self.assertEqual(node.sent(), (0, 2, 2))
        self.assertEqual(node.seen(), (0, 4, 6))
        self.assertEqual(node.returned(), [(1, 3, 2), (2, 9, 2)])
        self.assertEqual(node.exports(), [
            (1, 0, obj(0), 2), (1, 1, imp(2, 9), 2), (2, 0, obj(1), 1), (2, 1, imp(1, 3), 2),
        ])

    def test_only_roots_count_for_the_roots(self):
        node = after(self.EVENTS + [("drop", root) for root in (1, 2, 3, 4)])
        self.assertEqual(node.report()[3], ((2, 9),))
        self.assertEqual(node.report()[4], self.REPORT[4])
        self.assertEqual(after(self.EVENTS + [("drop", root) for root in (1, 2, 3, 4, 5)]).report()[3], ())

    def test_the_event_makes_it_the_last_one(self):
        node = after(self.EVENTS)
        self.assertEqual(node.perform(("report",)), self.REPORT)
        self.assertEqual(node.last_report(), self.REPORT)
        self.assertEqual(node.history(), self.EVENTS + [("report",)])
        node.perform(("send", 1, ()))
        self.assertEqual(node.last_report(), self.REPORT)
        later = (0, (0, 3, 2), *self.REPORT[2:])
        self.assertEqual(node.report(), later)
        self.assertEqual(node.last_report(), self.REPORT)
        self.assertEqual(node.perform(("report",)), later)
        self.assertEqual(node.last_report(), later)

    def test_an_empty_one(self):
        self.assertEqual(Node(2, 1).perform(("report",)), make_report(1, (0, 0), (0, 0)))


class RemoveTest(RefusalsCase):
    def test_some_entries(self):
        node = after([("make", 0), ("make", 0), ("send", 1, (0, 1)), ("send", 2, (1,))])
        self.assertIsNone(node.perform(("remove", ((1, 0), (2, 0)))))
        self.assertEqual(node.exports(), [(1, 1, obj(1), 1)])
        self.assertEqual(node.history()[-1], ("remove", ((1, 0), (2, 0))))
        self.assertIsNone(node.perform(("remove", ())))
        self.assertEqual(node.history()[-1], ("remove", ()))

    def test_no_entry(self):
        node = after([("make", 0), ("make", 0), ("send", 1, (0, 1))])
        for entries in (((2, 0),), ((1, 2),), ((1, -1),), ((-1, 0),), ((1, 0), (1, 1), (2, 0)), ((0, 0), (1, 0))):
            self.refuses(node, ("remove", entries), NoEntry)
        node.perform(("remove", ((1, 0),)))
        self.refuses(node, ("remove", ((1, 0),)), NoEntry)

    def test_its_number_is_not_given_again(self):
        node = after([("make", 0), ("send", 1, (0,)), ("send", 2, (0,)), ("remove", ((1, 0), (2, 0)))])
        self.assertEqual(node.perform(("send", 1, (0,)))[5], (("export", 1),))
        self.assertEqual(node.perform(("send", 2, (0,)))[5], (("export", 1),))
        self.assertEqual(node.exports(), [(1, 1, obj(0), 2), (2, 1, obj(0), 2)])

    def test_the_objects_go_when_it_collects(self):
        node = after([("make", 0), ("send", 1, (0,)), ("drop", 0), ("collect",)])
        self.assertEqual(node.heap(), {0: ()})
        node.perform(("remove", ((1, 0),)))
        self.assertEqual(node.heap(), {0: ()})
        self.assertEqual(node.perform(("collect",)), ((0,), ()))


if __name__ == "__main__":
    unittest.main()
