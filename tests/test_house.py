"""Points 17 and 32 to 34: what a house does and refuses, and what is in its log then."""

import copy
import random
import unittest

from keptbywitness.disks import Disk
from keptbywitness.errors import (
    Inconsistent, LogFull, NoEntry, NoField, NoReport, NoRoot, NotKept, NotObject, NotOpen, OutOfRange, PowerCut,
    WrongMessage,
)
from keptbywitness.house import House
from keptbywitness.log import format_disk, open_log
from keptbywitness.nodes import Node, replay
from cases import UnchangedCase
from draws import draw_wrong_event
from models import Model, outcome, tell
from stores import blocks_of_log, draw_event, read_all, stored, tell_disk
from test_log_cuts import draw_torn

MAKE = ("make", 1)


def new_house(size=40, nodes=2, number=0, events=()):
    disk = Disk(size)
    format_disk(disk, nodes, number)
    house = House(disk)
    for event in events:
        house.perform(event)
    return disk, house


def tell_house(disk, house):
    return (tell(house.node()), house.count(), house.free_blocks(), tell_disk(disk))


class HouseCase(UnchangedCase):
    def refused(self, disk, house, error, name, call, *arguments):
        self.raises_unchanged(lambda: tell_house(disk, house), error, name, call, *arguments)

    def is_logged(self, disk, house):
        """The log has exactly the events of the house."""
        history = house.node().history()
        blocks = blocks_of_log(house.node().nodes(), house.node().number(), history)
        self.assertEqual(read_all(disk)[:len(blocks)], blocks)
        other = copy.deepcopy(disk)
        # A cut may be scheduled, which is not to come here.
        other.schedule_cut(100000, [])
        self.assertEqual(open_log(other).events(), history)
        self.assertEqual((house.count(), house.free_blocks()), (len(history), disk.size() - len(blocks)))

    def is_stored(self, disk, house):
        """As is_logged, and nothing waits."""
        self.is_logged(disk, house)
        self.assertEqual((disk.pending_count(), stored(disk)), (0, read_all(disk)))


class OpenTest(HouseCase):
    def test_a_new_house(self):
        for nodes in (2, 3, 4):
            for number in range(nodes):
                disk, house = new_house(8, nodes, number)
                self.assertEqual(tell(house.node()), tell(Node(nodes, number)))
                self.assertEqual((house.count(), house.free_blocks()), (0, 7))

    def test_no_log_and_cuts(self):
        self.assertRaises(NotKept, House, Disk(8))
        disk, _ = new_house(8)
        disk.schedule_cut(3, [])
        self.assertRaises(PowerCut, House, disk)
        self.assertEqual(House(disk).count(), 0)

    def test_opening_again(self):
        disk, house = new_house(events=[MAKE, ("send", 1, (0,)), ("drop", 0), ("report",), ("collect",)])
        house.sync()
        again = House(disk)
        self.assertEqual(tell_house(disk, again), tell_house(disk, house))
        self.assertEqual(again.perform(MAKE), 1)
        self.assertEqual(again.count(), 6)
        self.is_logged(disk, again)

    def test_what_the_caller_does_to_what_was_returned(self):
        disk, house = new_house(events=[MAKE, ("send", 1, (0,))])
        before = tell_house(disk, house)
        node = house.node()
        node.perform(("drop", 0))
        node.perform(("remove", ((1, 0),)))
        node.perform(("collect",))
        self.assertEqual(tell_house(disk, house), before)
        self.assertEqual(house.perform(("read", 0, 0)), None)
        self.assertEqual(len(node.history()), 5)


class PerformTest(HouseCase):
    def test_every_kind_of_event(self):
        disk, house = new_house()
        message = (1, 0, 1, 1, (0,), (("export", 2), ("return", 0)))
        events = [
            (("make", 2), 0), (("read", 0, 1), None), (("write", 0, 1, 0), None), (("read", 0, 1), 1), (("drop", 1), None),
            (("write", 0, 1, None), None), (("send", 1, (0,)), (0, 1, 1, 0, (), (("export", 0),))),
            (("receive", message), (2, 3)), (("drop", 2), None), (("collect",), ((), ((1, 2),))),
            (("report",), (0, (0, 1), (0, 1), (), ((1, 0, 1, ()),), ())),
        ]
        node = Node(2, 0)
        for many, (event, given) in enumerate(events, 1):
            pending = disk.pending_count()
            self.assertEqual(house.perform(event), given, event)
            self.assertEqual(node.perform(event), given)
            self.assertEqual((house.count(), tell(house.node())), (many, tell(node)))
            self.is_logged(disk, house)
            if event[0] in ("send", "report"):
                self.is_stored(disk, house)
            else:
                self.assertGreater(disk.pending_count(), pending)

    def test_messages_that_are_not_accepted(self):
        disk, house = new_house()
        first, second = ((1, 0, at, 0, (), (("export", at),)) for at in (1, 2))
        self.assertEqual(house.perform(("receive", second)), (0,))
        before = tell_house(disk, house)
        for message in (first, second, (1, 0, 2, 9, (), (("return", 7),))):
            self.assertIsNone(house.perform(("receive", message)))
            self.assertEqual(tell_house(disk, house), before)
        # Nor is the disk asked for anything: neither cut, nor room.
        disk.schedule_cut(0, [])
        self.assertIsNone(house.perform(("receive", first)))
        self.assertEqual(disk.cut_count(), 0)

    def test_remove_is_not_performed(self):
        disk, house = new_house(events=[MAKE, ("send", 1, (0,))])
        for entries in (((1, 0),), (), ((1, 1),)):
            self.refused(disk, house, OutOfRange, "event", house.perform, ("remove", entries))

    def test_what_the_node_refuses(self):
        disk, house = new_house(events=[
            MAKE, ("receive", (1, 0, 1, 0, (), (("export", 4),))), ("make", 0), ("drop", 2), ("send", 1, (0,)),
        ])
        for event, error, name in (
            (("make", 5), OutOfRange, "fields"), (("make", -1), OutOfRange, "fields"), (("read", 2, 9), NoRoot, None),
            (("read", 1, 9), NotObject, None), (("read", 0, 1), NoField, None), (("write", 2, 9, 9), NoRoot, None),
            (("write", 1, 9, 9), NotObject, None), (("write", 0, 1, 9), NoField, None), (("write", 0, 0, 2), NoRoot, None),
            (("drop", 2), NoRoot, None), (("send", 0, (9,) * 5), OutOfRange, "to"), (("send", 2, ()), OutOfRange, "to"),
            (("send", 1, (9,) * 5), OutOfRange, "roots"), (("send", 1, (0, 9)), NoRoot, None),
            (("receive", (0, 0, 1, 0, (), ())), WrongMessage, None), (("receive", (1, 1, 9, 0, (), ())), WrongMessage, None),
            (("receive", (1, 0, 2, 2, (), (("return", 9),))), WrongMessage, None),
            (("receive", (1, 0, 2, 1, (), (("return", 9),))), NoEntry, None),
        ):
            self.refused(disk, house, error, name, house.perform, event)
        # This comes ahead of a full log and of a cut.
        full = [("collect",)] * (house.free_blocks())
        for event in full:
            house.perform(event)
        self.assertEqual(house.free_blocks(), 0)
        disk.schedule_cut(0, [])
        cuts = disk.cut_count()
        for event, error in ((("drop", 2), NoRoot), (("drop", 0), LogFull), (("remove", ()), OutOfRange)):
            self.assertRaises(error, house.perform, event)
        self.assertIsNone(house.perform(("receive", (1, 0, 1, 0, (), ()))))
        self.assertEqual(disk.cut_count(), cuts)

    def test_a_full_log(self):
        disk, house = new_house(8, events=[MAKE] + [("collect",)] * 5)
        self.assertEqual(house.free_blocks(), 1)
        long = ("receive", (1, 0, 1, 0, (0, 1, 2, 3, 4), (("export", 1),)))
        self.refused(disk, house, LogFull, None, house.perform, long)
        self.assertEqual(house.perform(("make", 3)), 1)
        for event in (MAKE, ("drop", 0), ("send", 1, (0,)), ("report",), ("collect",), ("read", 0, 0)):
            self.refused(disk, house, LogFull, None, house.perform, event)
        house.sync()
        self.refused(disk, house, NoReport, None, house.reclaim, (0,))
        self.assertEqual(House(disk).count(), 7)

    def test_records_of_more_than_40_pieces(self):
        disk, house = new_house(400)
        event = ("receive", (1, 0, 1, 0, tuple(range(10000, 10157)), ()))
        self.refused(disk, house, LogFull, None, house.perform, event)
        self.assertEqual(house.perform(("receive", (1, 0, 1, 0, tuple(range(10000, 10156)), ()))), ())
        self.is_logged(disk, house)

    def test_drawn_events(self):
        """As the node does, but for LogFull."""
        chance = random.Random(32)
        raised, full = 0, 0
        for _ in range(40):
            disk, house = new_house(chance.choice((10, 30, 100)))
            model = Model(2, 0)
            for _ in range(40):
                if chance.random() < 0.6:
                    event = draw_event(chance, house.node())
                else:
                    event = draw_wrong_event(chance, house.node(), [])
                if event[0] == "remove":
                    continue
                before, told = tell_house(disk, house), copy.deepcopy(model)
                result = outcome(house.perform, event)
                self.assertEqual(tell_disk(disk)[3], 0)
                if result == ("raised", "LogFull", None):
                    self.assertEqual(told.perform(event)[0], "gave")
                    self.assertEqual(tell_house(disk, house), before)
                    full += 1
                    continue
                self.assertEqual(result, model.perform(event))
                self.assertEqual(tell(house.node()), model.tell())
                if result[0] == "raised":
                    self.assertEqual(tell_house(disk, house), before)
                    raised += 1
                self.is_logged(disk, house)
        self.assertGreater(raised, 100)
        self.assertGreater(full, 30)


class ReportsTest(HouseCase):
    def houses(self, many=3, size=40):
        """Houses of which each has a report of each: the last one of its own, and heard from the others."""
        made = [new_house(size, many, number) for number in range(many)]
        disks, houses = [disk for disk, _ in made], [house for _, house in made]
        return disks, houses

    def report_all(self, houses, members, hearers):
        reports = {member: houses[member].perform(("report",)) for member in members}
        for hearer in hearers:
            for member in members:
                if member != hearer:
                    self.assertIsNone(houses[hearer].hear(reports[member]))
        return reports

    def pass_on(self, houses, sender, to, *roots):
        return houses[to].perform(("receive", houses[sender].perform(("send", to, roots))))

    def test_what_is_reclaimed(self):
        disks, houses = self.houses()
        houses[0].perform(("make", 0))
        for to in (1, 2):
            (root,) = self.pass_on(houses, 0, to, 0)
            houses[to].perform(("drop", root))
        houses[0].perform(("drop", 0))
        self.report_all(houses, (0, 1), (0, 1))
        node = houses[0].node()
        self.assertEqual(houses[0].reclaim((0, 1)), ((1, 0),))
        self.is_logged(disks[0], houses[0])
        self.assertEqual(houses[0].node().history()[-1], ("remove", ((1, 0),)))
        self.assertEqual(node.reclaim([node.last_report(), houses[1].node().last_report()]), ((1, 0),))
        self.assertEqual(tell(houses[0].node()), tell(node))
        # Also if nothing goes, it is an event.
        count = houses[0].count()
        self.assertEqual(houses[0].reclaim((0,)), ())
        self.assertEqual(houses[0].reclaim((0, 1)), ())
        self.assertEqual(houses[0].count(), count + 2)
        self.is_logged(disks[0], houses[0])
        # The house of 1 has heard a report of 0, and has one of its own.
        self.assertEqual(houses[1].reclaim((0, 1)), ())
        houses[0].hear(houses[2].perform(("report",)))
        self.assertEqual(houses[0].reclaim((0, 1, 2)), ((2, 0),))
        self.assertEqual(houses[0].perform(("collect",)), ((0,), ()))

    def test_the_last_ones_count(self):
        _, houses = self.houses(2)
        houses[0].perform(("make", 0))
        self.pass_on(houses, 0, 1, 0)
        self.report_all(houses, (0, 1), (0, 1))
        self.assertEqual(houses[0].reclaim((0, 1)), ())
        houses[1].perform(("drop", 0))
        old, new = houses[1].node().last_report(), houses[1].perform(("report",))
        self.assertEqual(houses[0].reclaim((0, 1)), ())
        for heard, entries in ((new, ((1, 0),)), (old, ())):
            other = copy.deepcopy(houses[0])
            other.hear(heard)
            self.assertEqual(other.reclaim((0, 1)), entries)
        houses[0].hear(new)
        houses[0].hear(old)
        self.assertEqual(houses[0].reclaim((0, 1)), ())
        houses[0].hear(new)
        # Its own last report is the one that counts: there the entry has been carried once more.
        houses[0].perform(("send", 1, (0,)))
        houses[0].perform(("report",))
        self.assertEqual(houses[0].reclaim((0, 1)), ())

    def test_hear(self):
        disks, houses = self.houses()
        report = houses[1].perform(("report",))
        before = tell_house(disks[0], houses[0])
        self.assertIsNone(houses[0].hear(report))
        self.assertEqual(tell_house(disks[0], houses[0]), before)
        for number in (0, -1, 3, 4):
            wrong = (number, *report[1:])
            self.refused(disks[0], houses[0], OutOfRange, "report", houses[0].hear, wrong)
        for number in (1, 2):
            self.assertIsNone(houses[0].hear((number, *report[1:])))
        # A disk is not asked for this.
        disks[0].schedule_cut(0, [])
        self.assertIsNone(houses[0].hear(report))
        self.assertEqual(disks[0].cut_count(), 0)

    def test_groups_that_are_none_or_without_the_node(self):
        disks, houses = self.houses()
        self.report_all(houses, (0, 1, 2), (0, 1, 2))
        for group in ((), (-1, 1), (1, 3), (1, 1), (2, 1), (0, 1, 1), (0, 0, 1), (1, 0), (0, 2), (0,), (2,), (-1,)):
            self.refused(disks[1], houses[1], OutOfRange, "group", houses[1].reclaim, group)
        for group in ((1,), (0, 1), (1, 2), (0, 1, 2)):
            self.assertEqual(houses[1].reclaim(group), ())
        # This comes ahead of a report that is missing.
        disk, house = new_house()
        self.refused(disk, house, OutOfRange, "group", house.reclaim, (1,))
        self.refused(disk, house, NoReport, None, house.reclaim, (0,))

    def test_reports_that_are_missing(self):
        disks, houses = self.houses()
        reports = {member: houses[member].perform(("report",)) for member in (1, 2)}
        for group in ((0,), (0, 1), (0, 1, 2)):
            self.refused(disks[0], houses[0], NoReport, None, houses[0].reclaim, group)
        houses[0].hear(reports[1])
        self.refused(disks[0], houses[0], NoReport, None, houses[0].reclaim, (0, 1))
        houses[0].perform(("report",))
        self.assertEqual(houses[0].reclaim((0, 1)), ())
        for group in ((0, 2), (0, 1, 2)):
            self.refused(disks[0], houses[0], NoReport, None, houses[0].reclaim, group)
        houses[0].hear(reports[2])
        self.assertEqual(houses[0].reclaim((0, 1, 2)), ())

    def test_reports_that_are_not_consistent(self):
        disks, houses = self.houses()
        self.report_all(houses, (0, 1, 2), (0, 1, 2))
        self.pass_on(houses, 0, 1)
        self.report_all(houses, (1,), (0, 2))
        for number, group in ((0, (0, 1)), (0, (0, 1, 2)), (2, (0, 1, 2)), (1, (0, 1))):
            self.refused(disks[number], houses[number], Inconsistent, None, houses[number].reclaim, group)
        # A report that is missing comes first.
        for number in (0, 2):
            again = House(disks[number])
            again.hear(houses[1].node().last_report())
            group = (0, 1) if number == 0 else (1, 2)
            self.refused(disks[number], again, NoReport, None, again.reclaim, (0, 1, 2))
            if number == 0:
                self.refused(disks[0], again, Inconsistent, None, again.reclaim, group)
            else:
                self.assertEqual(again.reclaim(group), ())
        self.assertEqual(houses[0].perform(("report",))[1], (0, 1, 0))
        self.assertEqual(houses[0].reclaim((0, 1, 2)), ())

    def test_a_full_log(self):
        disk, house = new_house(8, events=[("report",)] + [("collect",)] * 6)
        other = new_house(8, 2, 1)[1]
        self.refused(disk, house, LogFull, None, house.reclaim, (0,))
        self.refused(disk, house, NoReport, None, house.reclaim, (0, 1))
        house.hear((1, (0, 0), (9, 0), (), (), ()))
        self.refused(disk, house, Inconsistent, None, house.reclaim, (0, 1))
        house.hear(other.perform(("report",)))
        self.refused(disk, house, LogFull, None, house.reclaim, (0, 1))
        # It comes ahead of a cut.
        disk.schedule_cut(0, [])
        self.assertRaises(LogFull, house.reclaim, (0, 1))
        self.assertEqual(disk.cut_count(), 0)

    def test_an_opened_house_has_heard_none(self):
        disks, houses = self.houses(2)
        self.report_all(houses, (0, 1), (0, 1))
        self.assertEqual(houses[0].reclaim((0, 1)), ())
        for cut in (False, True):
            if cut:
                disks[0].cut_power([])
            houses[0] = House(disks[0])
            self.refused(disks[0], houses[0], NoReport, None, houses[0].reclaim, (0, 1))
            # Its own one is in the log.
            self.assertEqual(houses[0].reclaim((0,)), ())
            houses[0].hear(houses[1].node().last_report())
            self.assertEqual(houses[0].reclaim((0, 1)), ())

    def test_reports_of_before_an_opening(self):
        disks, houses = self.houses(2)
        houses[0].perform(("make", 0))
        self.pass_on(houses, 0, 1, 0)
        houses[1].perform(("drop", 0))
        report = houses[1].perform(("report",))
        last = houses[0].perform(("report",))
        houses[0] = House(disks[0])
        houses[0].hear(report)
        self.assertEqual(houses[0].node().last_report(), last)
        self.assertEqual(houses[0].reclaim((0, 1)), ((1, 0),))


class SyncTest(HouseCase):
    def test_sync(self):
        disk, house = new_house()
        self.assertEqual(house.sync(), 0)
        house.perform(MAKE)
        house.perform(("drop", 0))
        self.assertEqual(house.sync(), 2)
        self.is_stored(disk, house)
        self.assertEqual(house.sync(), 2)
        disk.cut_power([])
        self.assertEqual(House(disk).count(), 2)


class CutTest(HouseCase):
    def closed(self, disk, house):
        """Nothing can be done with the house, whose node stays as it is."""
        told = tell(house.node()), house.count()
        report = Node(house.node().nodes(), 1).report()
        for call, *arguments in (
            (house.perform, MAKE), (house.perform, ("drop", 99)), (house.perform, ("remove", ())),
            (house.perform, ("receive", (1, 0, 0, 0, (), ()))), (house.hear, report), (house.hear, (0, *report[1:])),
            (house.reclaim, (0,)), (house.reclaim, ()), (house.reclaim, (0, 1)), (house.sync,),
        ):
            self.raises_unchanged(lambda: tell_disk(disk), NotOpen, None, call, *arguments)
        self.assertEqual((tell(house.node()), house.count()), told)

    def test_after_a_cut_of_the_disk(self):
        for torn in ([], [32], [32] * 9):
            disk, house = new_house(events=[MAKE, ("report",), ("drop", 0), ("collect",)])
            before = tell(house.node())
            disk.cut_power(torn)
            self.closed(disk, house)
            self.assertEqual(tell(house.node()), before)
            again = House(disk)
            self.assertEqual(again.count(), 2 + min(len(torn), 2))
            self.assertEqual(tell(again.node()), tell(replay(2, 0, before["history"][:again.count()])))
            self.closed(disk, house)
            self.assertEqual(again.perform(MAKE), 1)

    def test_cuts_in_a_call(self):
        events = [MAKE, ("drop", 0), ("send", 1, (0,)), ("report",), ("collect",), ("reclaim", (0,)), ("sync",)]
        for event in events:
            for many in range(3):
                for torn in ([], [32] * 20):
                    disk, house = new_house(events=[MAKE, ("report",), ("write", 0, 0, 0)])
                    before = tell(house.node())
                    disk.schedule_cut(many, torn)
                    call = [house.perform, event]
                    if event[0] in ("reclaim", "sync"):
                        call = [getattr(house, event[0]), *event[1:]]
                    flushed = event[0] in ("send", "report")
                    if many >= 1 + flushed:
                        self.assertIsNot(outcome(*call)[0], "raised")
                        self.assertEqual(disk.cut_count(), 0)
                        continue
                    self.assertRaises(PowerCut, *call)
                    # The node is as it was ahead of the call, and so is the count.
                    self.assertEqual((tell(house.node()), house.count()), (before, 3))
                    self.closed(disk, house)
                    history = House(disk).node().history()
                    if not torn:
                        self.assertEqual(history, before["history"][:2])
                    elif flushed and many == 1:
                        # The record was there to be stored.
                        self.assertEqual(history, before["history"] + [event])
                    else:
                        self.assertEqual(history, before["history"])

    def test_a_message_of_several_pieces(self):
        event = ("receive", (1, 0, 1, 0, tuple(range(10000, 10005)), (("export", 0),)))
        for many in range(4):
            disk, house = new_house(events=[MAKE])
            disk.schedule_cut(many, [32] * 9)
            if many < 3:
                self.assertRaises(PowerCut, house.perform, event)
                self.assertEqual(house.node().imports(), [])
            else:
                self.assertEqual(house.perform(event), (1,))
                self.assertRaises(PowerCut, house.sync)
                self.assertEqual(house.node().imports(), [(1, 0)])
            self.closed(disk, house)
            self.assertEqual(House(disk).count(), 1 + (many == 3))

    def test_drawn_courses(self):
        chance = random.Random(34)
        seen = {"cut": 0, "lost": 0, "cut event is there": 0}
        for _ in range(80):
            disk, house = new_house(chance.choice((12, 40, 100)))
            safe = 0
            for _ in range(40):
                if chance.random() < 0.15:
                    disk.schedule_cut(chance.randint(0, 9), draw_torn(chance, 20))
                before = tell(house.node())
                event = chance.choice((draw_event(chance, house.node()),) * 3 + (("sync",), ("send", 1, ()), ("report",)))
                if event[0] == "remove":
                    event = ("reclaim", (0,))
                call = (house.perform, event) if event[0] not in ("sync", "reclaim") else (getattr(house, event[0]), *event[1:])
                result = outcome(*call)
                if result[0] == "gave":
                    safe = house.count() if event[0] in ("sync", "send", "report") else safe
                    if event[0] in ("sync", "send", "report"):
                        self.is_stored(disk, house)
                    continue
                self.assertEqual(tell(house.node()), before)
                if result[1] != "PowerCut":
                    continue
                self.closed(disk, house)
                house = House(disk)
                history = house.node().history()
                self.assertGreaterEqual(len(history), safe)
                self.assertEqual(history, (before["history"] + [event])[:len(history)])
                self.is_stored(disk, house)
                seen["cut"] += 1
                seen["lost"] += len(history) < len(before["history"])
                seen["cut event is there"] += len(history) > len(before["history"])
                safe = len(history)
        for word, many in seen.items():
            self.assertGreater(many, 20, word)


if __name__ == "__main__":
    unittest.main()
