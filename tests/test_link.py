"""Point 35: the letters of a link, what each call gives and refuses, and houses that are cut and opened again."""

import random
import unittest

from keptbywitness.errors import (
    Inconsistent, LogFull, NoLetter, NoReport, NoRoot, NotOpen, OutOfRange, PowerCut,
)
from keptbywitness.link import Link
from keptbywitness.nodes import Node
from cases import UnchangedCase
from models import tell

MAKE = ("make", 1)


def tell_link(link):
    """All that a link tells."""
    nodes = link.nodes()
    return ([tell(node) for node in nodes], link.letters(), [link.is_open(number) for number in range(len(nodes))])


class LinkCase(UnchangedCase):
    def refuses(self, link, error, name, call, *arguments):
        """The call raises exactly this error, and changes nothing that the link tells."""
        self.raises_unchanged(lambda: tell_link(link), error, name, call, *arguments)


class MadeTest(LinkCase):
    def test_new_links(self):
        for nodes in (2, 3, 4):
            for blocks in (8, 400):
                link = Link(nodes, blocks)
                expected = [tell(Node(nodes, number)) for number in range(nodes)]
                self.assertEqual(tell_link(link), (expected, [], [True] * nodes))
                # The disks are formatted, and nothing waits on them.
                for number in range(nodes):
                    link.cut_power(number, [])
                    self.assertEqual(link.reopen(number), 0)

    def test_numbers_of_nodes_and_blocks(self):
        for nodes, blocks, name in (
            (1, 8, "nodes"), (0, 7, "nodes"), (5, 8, "nodes"), (-1, 500, "nodes"), (5, 401, "nodes"),
            (2, 7, "blocks"), (4, 401, "blocks"), (3, 0, "blocks"), (3, -8, "blocks"),
        ):
            with self.assertRaises(OutOfRange) as caught:
                Link(nodes, blocks)
            self.assertEqual(caught.exception.name, name)

    def test_disks_of_so_many_blocks(self):
        for blocks in (8, 9, 30):
            link = Link(2, blocks)
            for _ in range(blocks - 1):
                link.perform(0, ("collect",))
            self.refuses(link, LogFull, None, link.perform, 0, ("collect",))
            # Each house has a disk of its own.
            link.perform(1, ("collect",))

    def test_what_the_caller_does_to_what_was_returned(self):
        link = Link(2, 30)
        link.perform(0, MAKE)
        link.perform(0, ("send", 1, (0,)))
        before = tell_link(link)
        link.letters().pop()
        link.letters().append(("message", ()))
        nodes = link.nodes()
        nodes[0].perform(("drop", 0))
        nodes[1].perform(MAKE)
        nodes.clear()
        self.assertEqual(tell_link(link), before)
        torn = [32]
        link.schedule_cut(0, 1, torn)
        torn[0] = 0
        link.perform(0, MAKE)
        self.assertRaises(PowerCut, link.sync, 0)
        self.assertEqual(link.reopen(0), 3)


class LettersTest(LinkCase):
    def test_messages_and_reports(self):
        link = Link(3, 40)
        self.assertEqual(link.perform(1, MAKE), 0)
        message = link.perform(1, ("send", 2, (0,)))
        self.assertEqual(message, (1, 2, 1, 0, (), (("export", 0),)))
        self.assertEqual(link.letters(), [("message", message)])
        report = link.perform(1, ("report",))
        self.assertEqual(report, (1, (0, 0, 1), (0, 0, 0), (), ((2, 0, 1, ()),), ()))
        self.assertEqual(link.letters(), [("message", message), ("report", 0, report), ("report", 2, report)])
        other = link.perform(2, ("send", 0, ()))
        reports = [link.perform(number, ("report",)) for number in (0, 2)]
        self.assertEqual(link.letters()[3:], [
            ("message", other), ("report", 1, reports[0]), ("report", 2, reports[0]),
            ("report", 0, reports[1]), ("report", 1, reports[1]),
        ])
        # Other events make no letters.
        for event, given in (
            (MAKE, 1), (("read", 0, 0), None), (("write", 0, 0, 1), None), (("read", 0, 0), 2), (("drop", 2), None),
            (("collect",), ((), ())),
        ):
            self.assertEqual(link.perform(1, event), given)
        self.assertEqual(len(link.letters()), 8)

    def test_delivered_dropped_and_doubled(self):
        link = Link(2, 40)
        link.perform(0, ("make", 0))
        first, second, third = [link.perform(0, ("send", 1, (0,))) for _ in range(3)]
        report = link.perform(0, ("report",))
        rows = [("message", first), ("message", second), ("message", third), ("report", 1, report)]
        self.assertEqual(link.letters(), rows)
        self.assertIsNone(link.duplicate(1))
        self.assertEqual(link.letters(), rows + rows[1:2])
        self.assertEqual(link.deliver(1), (0,))
        self.assertEqual(link.letters(), [rows[0], rows[2], rows[3], rows[1]])
        # It came already, and the first one is late.
        before = tell(link.nodes()[1])
        self.assertIsNone(link.deliver(3))
        self.assertIsNone(link.deliver(0))
        self.assertEqual(tell(link.nodes()[1]), before)
        self.assertEqual(link.letters(), rows[2:])
        self.assertIsNone(link.duplicate(1))
        self.assertIsNone(link.drop(0))
        self.assertEqual(link.letters(), [rows[3], rows[3]])
        self.assertIsNone(link.deliver(0))
        self.assertIsNone(link.deliver(0))
        self.assertEqual(link.letters(), [])
        self.assertEqual(tell(link.nodes()[1]), before)

    def test_letters_that_are_not_there(self):
        link = Link(2, 20)
        for many in range(3):
            for at in (-1, -2, many, many + 1):
                for call in (link.drop, link.duplicate, link.deliver):
                    self.refuses(link, NoLetter, None, call, at)
            link.perform(0, ("send", 1, ()))

    def test_reports_are_heard(self):
        link = Link(3, 40)
        link.perform(0, ("make", 0))
        for to in (1, 2):
            link.perform(0, ("send", to, (0,)))
            link.deliver(0)
            link.perform(to, ("drop", 0))
        link.perform(0, ("report",))
        link.perform(1, ("report",))
        self.refuses(link, NoReport, None, link.reclaim, 0, (0, 1))
        # Letters for 1 and 2 by 0, for 0 and 2 by 1.
        self.assertIsNone(link.deliver(3))
        self.refuses(link, NoReport, None, link.reclaim, 0, (0, 1))
        self.assertIsNone(link.deliver(2))
        self.assertEqual(link.reclaim(0, (0, 1)), ((1, 0),))
        self.assertEqual(link.nodes()[0].history()[-1], ("remove", ((1, 0),)))
        self.refuses(link, NoReport, None, link.reclaim, 0, (0, 1, 2))
        self.refuses(link, NoReport, None, link.reclaim, 1, (0, 1))
        self.assertIsNone(link.deliver(0))
        self.assertEqual(link.reclaim(1, (0, 1)), ())
        self.assertEqual(link.letters()[0][:2], ("report", 2))

    def test_sync(self):
        link = Link(2, 20)
        self.assertEqual([link.sync(0), link.sync(1)], [0, 0])
        link.perform(0, MAKE)
        link.perform(0, ("drop", 0))
        link.perform(1, MAKE)
        self.assertEqual([link.sync(0), link.sync(1)], [2, 1])
        for number, many in ((0, 2), (1, 1)):
            link.cut_power(number, [])
            self.assertEqual(link.reopen(number), many)


class ErrorsTest(LinkCase):
    def test_nodes_that_are_not_there(self):
        for nodes in (2, 3, 4):
            link = Link(nodes, 8)
            for number in (-1, nodes, nodes + 1, -nodes):
                for call, *rest in (
                    (link.perform, MAKE), (link.perform, ("receive", 0)), (link.perform, ("remove", ())),
                    (link.reclaim, (0,)), (link.reclaim, ()), (link.sync,), (link.is_open,), (link.reopen,),
                    (link.cut_power, []), (link.cut_power, [33]), (link.schedule_cut, 0, []), (link.schedule_cut, -1, [33]),
                ):
                    self.refuses(link, OutOfRange, "node", call, number, *rest)

    def test_receive_and_remove(self):
        link = Link(2, 8)
        message = link.perform(1, ("send", 0, ()))
        for event in (("receive", message), ("receive", (1, 1, 0, 0, (), ())), ("remove", ()), ("remove", ((1, 0),))):
            self.refuses(link, OutOfRange, "event", link.perform, 0, event)
        link.cut_power(0, [])
        # That it is receive comes ahead of a house that is not open; that it is remove does not.
        self.refuses(link, OutOfRange, "event", link.perform, 0, ("receive", message))
        self.refuses(link, NotOpen, None, link.perform, 0, ("remove", ()))

    def test_what_the_house_refuses(self):
        link = Link(2, 10)
        link.perform(0, MAKE)
        for event, error, name in (
            (("make", 5), OutOfRange, "fields"), (("drop", 1), NoRoot, None), (("send", 0, (5,)), OutOfRange, "to"),
            (("send", 1, (0,) * 5), OutOfRange, "roots"), (("send", 1, (5,)), NoRoot, None),
        ):
            self.refuses(link, error, name, link.perform, 0, event)
        for group in ((), (1,), (0, 2), (1, 0)):
            self.refuses(link, OutOfRange, "group", link.reclaim, 0, group)
        self.refuses(link, NoReport, None, link.reclaim, 0, (0,))
        link.perform(0, ("report",))
        self.refuses(link, NoReport, None, link.reclaim, 0, (0, 1))
        self.assertEqual(link.reclaim(0, (0,)), ())
        for event in (MAKE, ("drop", 1), *[("collect",)] * 4):
            link.perform(0, event)
        for event, error in ((("drop", 0), LogFull), (("send", 1, ()), LogFull), (("report",), LogFull), (("drop", 1), NoRoot)):
            self.refuses(link, error, None, link.perform, 0, event)
        self.refuses(link, LogFull, None, link.reclaim, 0, (0,))

    def test_reports_that_are_not_consistent(self):
        link = Link(2, 20)
        link.perform(0, ("report",))
        link.perform(0, ("send", 1, ()))
        link.deliver(1)
        link.perform(1, ("report",))
        link.deliver(1)
        self.refuses(link, Inconsistent, None, link.reclaim, 0, (0, 1))
        link.deliver(0)
        self.refuses(link, Inconsistent, None, link.reclaim, 1, (0, 1))

    def test_houses_that_are_not_open(self):
        link = Link(2, 20)
        link.perform(0, MAKE)
        link.cut_power(0, [])
        for call, *rest in (
            (link.perform, MAKE), (link.perform, ("drop", 9)), (link.reclaim, (0,)), (link.reclaim, ()), (link.sync,),
        ):
            self.refuses(link, NotOpen, None, call, 0, *rest)
        self.assertEqual((link.is_open(0), link.is_open(1)), (False, True))

    def test_cuts_that_are_refused(self):
        link = Link(2, 20)
        link.perform(0, MAKE)
        for torn in ([33], [-1], [0, 32, 99]):
            self.refuses(link, OutOfRange, "torn", link.cut_power, 0, torn)
            self.refuses(link, OutOfRange, "torn", link.schedule_cut, 0, 0, torn)
            for many in (-1, 100001):
                self.refuses(link, OutOfRange, "many", link.schedule_cut, 0, many, torn)
        self.assertEqual(link.sync(0), 1)


class FullAndCutTest(LinkCase):
    def test_a_full_log_in_a_delivery(self):
        link = Link(2, 8)
        for _ in range(7):
            link.perform(1, ("collect",))
        link.perform(0, ("send", 1, ()))
        link.duplicate(0)
        before = tell_link(link)
        with self.assertRaises(LogFull):
            link.deliver(0)
        self.assertEqual(tell_link(link), (before[0], before[1][1:], [True, True]))
        # A report needs no room.
        link.perform(0, ("report",))
        self.assertIsNone(link.deliver(1))

    def test_a_cut_in_a_delivery(self):
        link = Link(3, 20)
        link.perform(0, ("make", 0))
        link.perform(0, ("send", 1, (0,)))
        link.perform(0, ("send", 2, (0,)))
        link.schedule_cut(1, 0, [])
        before = tell_link(link)
        with self.assertRaises(PowerCut):
            link.deliver(0)
        self.assertEqual(tell_link(link), (before[0], before[1][1:], [True, False, True]))
        # The others go on, and the letters remain.
        self.assertEqual(link.deliver(0), (0,))
        self.assertEqual(link.perform(0, ("make", 0)), 1)
        self.assertEqual(link.reopen(1), 0)
        self.assertTrue(link.is_open(1))

    def test_a_message_that_is_not_accepted_meets_no_cut(self):
        link = Link(2, 8)
        link.perform(0, ("send", 1, ()))
        link.duplicate(0)
        link.deliver(0)
        link.schedule_cut(1, 0, [])
        self.assertIsNone(link.deliver(0))
        self.assertTrue(link.is_open(1))
        self.assertRaises(PowerCut, link.sync, 1)

    def test_deliveries_to_a_house_that_is_not_open(self):
        link = Link(2, 20)
        link.perform(0, ("make", 0))
        link.perform(0, ("send", 1, (0,)))
        link.perform(0, ("report",))
        link.perform(0, ("send", 1, (0,)))
        link.cut_power(1, [])
        before = tell_link(link)
        for many in (1, 2):
            self.assertIsNone(link.deliver(0))
            self.assertEqual(tell_link(link), (before[0], before[1][many:], [True, False]))
        self.assertEqual(link.reopen(1), 0)
        self.assertEqual(link.deliver(0), (0,))
        # The report was lost.
        link.perform(1, ("report",))
        self.refuses(link, NoReport, None, link.reclaim, 1, (0, 1))

    def test_cuts_in_messages_and_reports_make_no_letters(self):
        for event in (("send", 1, (0,)), ("report",)):
            for many in (0, 1):
                for torn in ([], [32] * 9):
                    link = Link(3, 20)
                    link.perform(0, MAKE)
                    link.schedule_cut(0, many, torn)
                    before = tell_link(link)
                    with self.assertRaises(PowerCut):
                        link.perform(0, event)
                    self.assertEqual(tell_link(link), (before[0], [], [False, True, True]))
                    self.assertEqual(link.reopen(0), (1 + many) if torn else 0)
                    if torn and many:
                        # The event may be in the history; nobody learned of it.
                        self.assertEqual(link.nodes()[0].history(), [MAKE, event])
                    self.assertEqual(link.letters(), [])

    def test_nodes_of_houses_that_are_not_open(self):
        link = Link(2, 20)
        link.perform(0, MAKE)
        link.sync(0)
        link.perform(0, ("make", 0))
        before = tell_link(link)
        self.assertIsNone(link.cut_power(0, [5]))
        self.assertEqual(tell_link(link), (before[0], [], [False, True]))
        self.assertEqual(link.reopen(0), 1)
        self.assertEqual(link.nodes()[0].history(), [MAKE])
        self.assertEqual(link.perform(0, ("make", 2)), 1)


class ReopenTest(LinkCase):
    def test_an_open_house(self):
        link = Link(2, 20)
        link.perform(0, MAKE)
        link.perform(1, ("report",))
        link.deliver(0)
        link.perform(0, ("report",))
        self.assertEqual(link.reclaim(0, (0, 1)), ())
        # What waits is flushed by this, and what was heard is forgotten.
        self.assertEqual(link.reopen(0), 3)
        self.assertEqual([event[0] for event in link.nodes()[0].history()], ["make", "report", "remove"])
        self.refuses(link, NoReport, None, link.reclaim, 0, (0, 1))
        self.assertEqual(link.reclaim(0, (0,)), ())
        link.cut_power(0, [])
        self.assertEqual(link.reopen(0), 3)

    def test_an_opening_that_is_cut(self):
        link = Link(2, 10)
        link.perform(0, MAKE)
        link.perform(0, ("report",))
        for is_open in (True, False):
            if is_open:
                link.perform(0, ("drop", 0))
            before = tell_link(link)
            for many in (0, 3):
                link.schedule_cut(0, many, [])
                with self.assertRaises(PowerCut):
                    link.reopen(0)
                self.assertEqual(tell_link(link), (*before[:2], [False, True]))
                self.refuses(link, NotOpen, None, link.sync, 0)
        self.assertEqual(link.reopen(0), 2)
        self.assertTrue(link.is_open(0))
        self.assertEqual(link.perform(0, ("drop", 0)), None)

    def test_other_houses_and_letters_remain(self):
        link = Link(3, 20)
        for number in range(3):
            link.perform(number, MAKE)
            link.perform(number, ("send", (number + 1) % 3, (0,)))
        letters = link.letters()
        for number in range(3):
            link.cut_power(number, [])
        self.assertEqual(link.letters(), letters)
        self.assertEqual([link.is_open(number) for number in range(3)], [False] * 3)
        self.assertEqual(link.reopen(2), 2)
        self.assertEqual([link.is_open(number) for number in range(3)], [False, False, True])
        self.assertEqual(link.deliver(1), (1,))
        self.assertEqual(link.letters(), [letters[0], letters[2]])


class DrawnLettersTest(LinkCase):
    def test_drawn_calls(self):
        """By a plain row of letters, and by nodes that do what the houses do."""
        chance = random.Random(35)
        for _ in range(25):
            link = Link(3, 200)
            row, nodes = [], [Node(3, number) for number in range(3)]
            for _ in range(60):
                number, at = chance.randrange(3), chance.randint(-1, len(row))
                word = chance.choice(("make", "send", "send", "report", "drop", "duplicate", "deliver", "deliver", "deliver"))
                if word in ("make", "send", "report"):
                    roots = [root for root, _ in nodes[number].roots()]
                    event = {
                        "make": ("make", 0), "report": ("report",),
                        "send": ("send", (number + chance.randint(1, 2)) % 3, tuple(chance.sample(roots, min(2, len(roots))))),
                    }[word]
                    given = nodes[number].perform(event)
                    self.assertEqual(link.perform(number, event), given)
                    row += [("message", given)] if word == "send" else []
                    row += [("report", to, given) for to in range(3) if to != number] if word == "report" else []
                elif at not in range(len(row)):
                    self.refuses(link, NoLetter, None, getattr(link, word), at)
                elif word == "deliver":
                    letter = row.pop(at)
                    expected = nodes[letter[1][1]].perform(("receive", letter[1])) if letter[0] == "message" else None
                    self.assertEqual(link.deliver(at), expected)
                else:
                    self.assertIsNone(getattr(link, word)(at))
                    row = row + [row[at]] if word == "duplicate" else row[:at] + row[at + 1:]
                self.assertEqual(link.letters(), row)
                self.assertEqual([tell(node) for node in link.nodes()], [tell(node) for node in nodes])


if __name__ == "__main__":
    unittest.main()
