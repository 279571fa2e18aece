"""Points 5, 8 and 9: messages that are sent, and received in order, late, twice or never."""

import unittest

from keptbywitness.errors import NoEntry, NoRoot, OutOfRange, WrongMessage
from keptbywitness.nodes import Node
from cases import RefusalsCase, after, message_to
from models import tell
from standins import imp, obj


class SendTest(RefusalsCase):
    def test_numbers_count_for_each_receiver(self):
        node = Node(4, 2)
        heads = [node.perform(("send", to, ()))[:3] for to in (0, 0, 3, 0, 1, 3)]
        self.assertEqual(heads, [(2, 0, 1), (2, 0, 2), (2, 3, 1), (2, 0, 3), (2, 1, 1), (2, 3, 2)])
        self.assertEqual(node.sent(), (3, 1, 0, 2))
        self.assertEqual(node.seen(), (0, 0, 0, 0))

    def test_the_whole_message(self):
        node = after([
            ("make", 0), message_to(0, 1, 3, (("export", 9), ("export", 2))), message_to(0, 2, 5, (("export", 2),)),
        ])
        self.assertEqual(
            node.perform(("send", 1, (0, 1, 3, 0))),
            (0, 1, 1, 3, (2, 9), (("export", 0), ("return", 9), ("export", 1), ("export", 0))),
        )
        self.assertEqual(node.perform(("send", 2, (3, 1, 0))), (0, 2, 1, 5, (2,), (("return", 2), ("export", 0), ("export", 1))))
        self.assertEqual(node.exports(), [
            (1, 0, obj(0), 1), (1, 1, imp(2, 2), 1), (2, 0, imp(1, 9), 1), (2, 1, obj(0), 1),
        ])
        self.assertEqual(node.returned(), [(1, 9, 1), (2, 2, 1)])
        self.assertEqual(node.history()[-1], ("send", 2, (3, 1, 0)))

    def test_an_entry_serves_again_and_gets_the_number(self):
        node = after([("make", 0), ("make", 0), ("send", 1, (0, 1))])
        self.assertEqual(node.exports(), [(1, 0, obj(0), 1), (1, 1, obj(1), 1)])
        self.assertEqual(node.perform(("send", 1, (1,)))[5], (("export", 1),))
        self.assertEqual(node.exports(), [(1, 0, obj(0), 1), (1, 1, obj(1), 2)])
        node.perform(("send", 1, ()))
        self.assertEqual(node.exports(), [(1, 0, obj(0), 1), (1, 1, obj(1), 2)])

    def test_each_receiver_has_its_own_entries(self):
        node = after([("make", 0), ("make", 0), ("send", 1, (0, 1)), ("send", 2, (1,))])
        self.assertEqual(node.exports(), [(1, 0, obj(0), 1), (1, 1, obj(1), 1), (2, 0, obj(1), 1)])

    def test_a_later_return_takes_the_place_of_the_record(self):
        node = after([message_to(0, 1, 1, (("export", 4), ("export", 6))), ("send", 1, (0, 1)), ("send", 1, ())])
        self.assertEqual(node.returned(), [(1, 4, 1), (1, 6, 1)])
        self.assertEqual(node.perform(("send", 1, (1, 1)))[5], (("return", 6), ("return", 6)))
        self.assertEqual(node.returned(), [(1, 4, 1), (1, 6, 3)])
        self.assertEqual(node.exports(), [])

    def test_held_is_what_is_held_and_not_yet_collected(self):
        node = after([message_to(0, 1, 1, (("export", 4), ("export", 2), ("export", 3))), ("drop", 0), ("drop", 1)])
        self.assertEqual(node.perform(("send", 1, ()))[4], (2, 3, 4))
        self.assertEqual(node.perform(("send", 2, ()))[4], ())
        node.perform(("collect",))
        self.assertEqual(node.perform(("send", 1, ()))[4], (3,))

    def test_refused(self):
        node = after([("make", 0), ("drop", 0), ("make", 0)])
        for to in (-1, 0, 3, 9):
            self.refuses(node, ("send", to, (1,)), OutOfRange, "to")
            self.refuses(node, ("send", to, (1,) * 5), OutOfRange, "to")
            self.refuses(node, ("send", to, (0,)), OutOfRange, "to")
        self.refuses(node, ("send", 1, (1,) * 5), OutOfRange, "roots")
        self.refuses(node, ("send", 1, (0,) * 5), OutOfRange, "roots")
        for roots in ((0,), (1, 0), (1, 1, 1, 2), (-1,)):
            self.refuses(node, ("send", 1, roots), NoRoot)
        self.assertEqual(node.perform(("send", 1, (1,) * 4))[2:], (1, 0, (), (("export", 0),) * 4))


class ReceiveTest(RefusalsCase):
    def test_exports_become_imports_with_roots(self):
        node = after([("make", 0)])
        event = message_to(0, 2, 1, (("export", 5), ("export", 0), ("export", 5)))
        self.assertEqual(node.perform(event), (1, 2, 3))
        self.assertEqual(node.roots(), [(0, obj(0)), (1, imp(2, 5)), (2, imp(2, 0)), (3, imp(2, 5))])
        self.assertEqual(node.imports(), [(2, 0), (2, 5)])
        self.assertEqual(node.seen(), (0, 0, 1))
        self.assertEqual(node.history(), [("make", 0), event])

    def test_nothing_carried(self):
        node = Node(3, 0)
        self.assertEqual(node.perform(message_to(0, 1, 1)), ())
        self.assertEqual(node.history(), [message_to(0, 1, 1)])
        self.assertEqual(node.seen(), (0, 1, 0))

    def test_returns_give_the_target_of_its_own_entry(self):
        node = after([("make", 0), message_to(0, 2, 1, (("export", 8),)), ("send", 1, (0, 1)), ("drop", 0), ("drop", 1)])
        event = message_to(0, 1, 1, (("return", 1), ("export", 0), ("return", 0)), 1, (0, 1))
        self.assertEqual(node.perform(event), (2, 3, 4))
        self.assertEqual(node.roots(), [(2, imp(2, 8)), (3, imp(1, 0)), (4, obj(0))])
        self.assertEqual(node.exports(), [(1, 0, obj(0), 1), (1, 1, imp(2, 8), 1)])

    def test_a_returned_entry_goes_only_after_its_root_is_made(self):
        node = after([("make", 0), ("send", 1, (0,)), ("drop", 0)])
        self.assertEqual(node.perform(message_to(0, 1, 1, (("return", 0),), 1, ())), (1,))
        self.assertEqual(node.roots(), [(1, obj(0))])
        self.assertEqual(node.exports(), [])
        self.assertEqual(node.perform(("collect",)), ((), ()))

    def test_late_and_repeated(self):
        node = after([message_to(0, 1, 4, (("export", 0),))])
        before = tell(node)
        for number in (4, 3, 1):
            for event in (
                message_to(0, 1, number, (("export", 1),)), message_to(0, 1, number, (("return", 9),)),
                message_to(0, 1, number, seen=99),
            ):
                self.assertIsNone(node.perform(event))
                self.assertEqual(tell(node), before)
        # Numbers count for each sender, and may leave out some.
        self.assertEqual(node.perform(message_to(0, 2, 3, (("export", 1),))), (1,))
        self.assertEqual(node.perform(message_to(0, 1, 9)), ())
        self.assertEqual(node.seen(), (0, 9, 3))

    def test_refused(self):
        node = after([("make", 0), ("send", 1, (0,)), ("send", 1, ()), message_to(0, 1, 1)])
        for sender, receiver in ((0, 0), (3, 0), (-1, 0), (1, 1), (1, 2), (1, 3), (1, -1), (2, 1)):
            for number in (1, 2):
                message = (sender, receiver, number, 9, (), (("return", 7),))
                self.refuses(node, ("receive", message), WrongMessage)
        self.refuses(node, message_to(0, 1, 2, seen=3), WrongMessage)
        self.refuses(node, message_to(0, 2, 1, seen=1), WrongMessage)
        self.refuses(node, message_to(0, 1, 2, (("return", 7),), 3), WrongMessage)
        for carried in ((("return", 1),), (("return", 0), ("return", -1)), (("export", 3), ("return", 2))):
            self.refuses(node, message_to(0, 1, 2, carried, 2), NoEntry)
        self.refuses(node, message_to(0, 2, 1, (("return", 0),)), NoEntry)
        self.assertEqual(node.perform(message_to(0, 1, 2, (("return", 0),), 2, (0,))), (1,))

    def test_an_entry_for_another_node_is_no_entry(self):
        node = after([("make", 0), ("send", 2, (0,))])
        self.refuses(node, message_to(0, 1, 1, (("return", 0),)), NoEntry)


class EntriesTest(RefusalsCase):
    """Entries and records that are removed or kept when a message is accepted (point 9)."""

    def node(self):
        """Entries 0, 1 and 2 for node 1 were last carried by messages 1, 3 and 2, entry 0 for node 2 by 1."""
        return after([
            ("make", 0), ("make", 0), ("make", 0), ("send", 1, (0, 2)), ("send", 1, (1,)), ("send", 1, (2,)), ("send", 2, (0,)),
        ])

    def entries_after(self, seen, held, sender=1):
        node = self.node()
        node.perform(message_to(0, sender, 1, (), seen, held))
        return [row[:2] for row in node.exports()]

    def test_numbers(self):
        self.assertEqual([row[:2] + row[3:] for row in self.node().exports()], [(1, 0, 1), (1, 1, 3), (1, 2, 2), (2, 0, 1)])

    def test_what_was_seen_and_is_not_held_goes(self):
        every = [(1, 0), (1, 1), (1, 2), (2, 0)]
        self.assertEqual(self.entries_after(0, ()), every)
        self.assertEqual(self.entries_after(1, ()), [(1, 1), (1, 2), (2, 0)])
        self.assertEqual(self.entries_after(2, ()), [(1, 1), (2, 0)])
        self.assertEqual(self.entries_after(3, ()), [(2, 0)])
        self.assertEqual(self.entries_after(3, (0, 1, 2)), every)
        self.assertEqual(self.entries_after(3, (1,)), [(1, 1), (2, 0)])
        self.assertEqual(self.entries_after(2, (0, 7)), [(1, 0), (1, 1), (2, 0)])
        self.assertEqual(self.entries_after(1, (), 2), every[:3])

    def test_late_ones_remove_nothing(self):
        node = self.node()
        node.perform(message_to(0, 1, 2, (), 0, ()))
        self.assertIsNone(node.perform(message_to(0, 1, 1, (), 3, ())))
        self.assertEqual(len(node.exports()), 4)

    def test_an_entry_that_is_gone_is_not_used_again(self):
        node = self.node()
        node.perform(message_to(0, 1, 1, (), 3, ()))
        self.assertEqual(node.perform(("send", 1, (0, 2)))[5], (("export", 3), ("export", 4)))

    def records_after(self, sender, seen):
        """Records of 1's entries 4 (message 1) and 6 (message 2), and of 2's entry 4 (message 1)."""
        node = after([
            message_to(0, 1, 1, (("export", 4), ("export", 6))), message_to(0, 2, 1, (("export", 4),)),
            ("send", 1, (0,)), ("send", 1, (1,)), ("send", 2, (2,)),
        ])
        self.assertEqual(node.returned(), [(1, 4, 1), (1, 6, 2), (2, 4, 1)])
        node.perform(message_to(0, sender, 2, (), seen, ()))
        return node.returned()

    def test_records(self):
        self.assertEqual(self.records_after(1, 0), [(1, 4, 1), (1, 6, 2), (2, 4, 1)])
        self.assertEqual(self.records_after(1, 1), [(1, 6, 2), (2, 4, 1)])
        self.assertEqual(self.records_after(1, 2), [(2, 4, 1)])
        self.assertEqual(self.records_after(2, 0), [(1, 4, 1), (1, 6, 2), (2, 4, 1)])
        self.assertEqual(self.records_after(2, 1), [(1, 4, 1), (1, 6, 2)])

    def test_records_stay_when_the_import_is_collected(self):
        node = after([message_to(0, 1, 1, (("export", 4),)), ("send", 1, (0,)), ("drop", 0), ("collect",)])
        self.assertEqual((node.imports(), node.returned()), ([], [(1, 4, 1)]))
        self.assertEqual(node.report()[5], ((1, 4, 1),))


class TwoNodesTest(unittest.TestCase):
    def test_there_and_back(self):
        here, there = Node(2, 0), Node(2, 1)
        here.perform(("make", 0))
        first = here.perform(("send", 1, (0,)))
        self.assertEqual(first, (0, 1, 1, 0, (), (("export", 0),)))
        self.assertEqual(there.perform(("receive", first)), (0,))
        back = there.perform(("send", 0, (0,)))
        self.assertEqual(back, (1, 0, 1, 1, (0,), (("return", 0),)))
        self.assertEqual(here.perform(("receive", back)), (1,))
        self.assertEqual(here.roots(), [(0, obj(0)), (1, obj(0))])
        self.assertEqual(here.exports(), [(1, 0, obj(0), 1)])
        there.perform(("drop", 0))
        there.perform(("collect",))
        over = there.perform(("send", 0, ()))
        self.assertEqual(over, (1, 0, 2, 1, (), ()))
        here.perform(("receive", over))
        self.assertEqual(here.exports(), [])
        self.assertEqual(there.returned(), [(0, 0, 1)])
        there.perform(("receive", here.perform(("send", 1, ()))))
        self.assertEqual(there.returned(), [])

    def test_an_entry_on_its_way_again_is_not_removed(self):
        here, there = Node(2, 0), Node(2, 1)
        here.perform(("make", 0))
        there.perform(("receive", here.perform(("send", 1, (0,)))))
        there.perform(("drop", 0))
        there.perform(("collect",))
        again = here.perform(("send", 1, (0,)))
        here.perform(("receive", there.perform(("send", 0, ()))))
        self.assertEqual(here.exports(), [(1, 0, obj(0), 2)])
        self.assertEqual(there.perform(("receive", again)), (1,))
        self.assertEqual(there.roots(), [(1, imp(0, 0))])
        self.assertEqual(there.perform(("receive", again)), None)
        self.assertEqual(there.imports(), [(0, 0)])

    def test_a_lost_message_is_told_by_a_later_one(self):
        here, there = Node(2, 0), Node(2, 1)
        here.perform(("make", 0))
        here.perform(("send", 1, (0,)))
        there.perform(("receive", here.perform(("send", 1, ()))))
        here.perform(("receive", there.perform(("send", 0, ()))))
        self.assertEqual(here.exports(), [])

    def test_a_third_node_keeps_by_way_of_the_second(self):
        one, two, three = (Node(3, number) for number in range(3))
        one.perform(("make", 0))
        two.perform(("receive", one.perform(("send", 1, (0,)))))
        three.perform(("receive", two.perform(("send", 2, (0,)))))
        two.perform(("drop", 0))
        self.assertEqual(two.perform(("collect",)), ((), ()))
        self.assertEqual(two.imports(), [(0, 0)])
        one.perform(("receive", two.perform(("send", 0, ()))))
        self.assertEqual(one.exports(), [(1, 0, obj(0), 1)])
        two.perform(("receive", three.perform(("send", 1, (0,)))))
        self.assertEqual(two.roots(), [(1, imp(0, 0))])


if __name__ == "__main__":
    unittest.main()
