"""Points 30 and 31: formatting, opening, where a log ends, and what is appended."""

import copy
import itertools
import random
import unittest

from keptbywitness.blocks import decode_piece, encode_record
from keptbywitness.disks import Disk
from keptbywitness.errors import LogFull, NotKept, NotOpen, OutOfRange, PowerCut
from keptbywitness.events import read_event, write_event
from keptbywitness.log import Log, format_disk, open_log
from keptbywitness.nodes import Node, replay
from cases import UnchangedCase
from models import tell
from stores import (
    ZEROS, blocks_of_log, dirty_disk, disk_of, draw_event, new_log, read_all, stored, tell_disk,
    tell_log,
)

MAKE = ("make", 1)
EVENTS = (MAKE, ("send", 1, (0, 0)), ("receive", (1, 0, 1, 1, (0,), (("export", 4), ("return", 0)))), ("drop", 0))


class FormatTest(UnchangedCase):
    def test_byte_by_byte(self):
        for nodes in (2, 3, 4):
            for number in range(nodes):
                for disk in (Disk(8), Disk(400), dirty_disk(nodes), dirty_disk(number, 9)):
                    self.assertIsNone(format_disk(disk, nodes, number))
                    codes = [110, 111, 100, 101, 32, 48 + nodes, 32, 48 + number]
                    first = [75, 0, 1, 0, 0, 8] + codes + [0] * 17 + [75]
                    self.assertEqual(read_all(disk), [first] + [ZEROS] * (disk.size() - 1))
                    self.assertEqual(stored(disk), read_all(disk))
                    self.assertEqual((disk.pending_count(), disk.cut_count()), (0, 0))
                    log = open_log(disk)
                    self.assertEqual(tell(log.node()), tell(Node(nodes, number)))
                    self.assertEqual((log.events(), log.free_blocks()), ([], disk.size() - 1))

    def test_numbers(self):
        for nodes, number, name in (
            (1, 0, "nodes"), (0, 0, "nodes"), (5, 0, "nodes"), (-2, -3, "nodes"), (5, 9, "nodes"), (1, -1, "nodes"),
            (2, -1, "number"), (2, 2, "number"), (3, 3, "number"), (4, 4, "number"), (4, 9, "number"),
        ):
            for disk in (Disk(8), dirty_disk(1)):
                self.raises_unchanged(lambda: tell_disk(disk), OutOfRange, name, format_disk, disk, nodes, number)
            # Nothing is written, and so nothing is cut.
            disk.schedule_cut(0, [])
            self.raises_unchanged(lambda: disk.cut_count(), OutOfRange, name, format_disk, disk, nodes, number)

    def test_cuts(self):
        for many in range(10):
            disk = disk_of([[7] * 32] * 8, 8)
            disk.schedule_cut(many, [])
            if many < 9:
                with self.assertRaises(PowerCut):
                    format_disk(disk, 2, 0)
                self.assertEqual(read_all(disk), [[7] * 32] * 8)
            else:
                # Eight writes and a flush; the next flush is the one that is cut.
                format_disk(disk, 2, 0)
                self.assertRaises(PowerCut, disk.flush)
                self.assertEqual(open_log(disk).events(), [])


class NoLogTest(UnchangedCase):
    def not_kept(self, disk):
        self.raises_unchanged(lambda: tell_disk(disk), NotKept, None, open_log, disk)
        # Not even where a write would be cut.
        disk.schedule_cut(0, [])
        self.raises_unchanged(lambda: disk.cut_count(), NotKept, None, open_log, disk)

    def test_disks_that_hold_none(self):
        self.not_kept(Disk(8))
        self.not_kept(Disk(400))
        self.not_kept(dirty_disk(3))
        good = blocks_of_log(2, 0, EVENTS)
        self.not_kept(disk_of([ZEROS, *good]))
        self.not_kept(disk_of(good[1:]))
        waiting = disk_of(good)
        waiting.write(0, ZEROS)
        self.not_kept(waiting)
        self.assertEqual(waiting.pending_count(), 1)

    def test_texts_of_record_0(self):
        for text in (
            "node 1 0", "node 5 0", "node 0 0", "node 2 2", "node 3 3", "node 4 4", "node 2 9", "node 02 0", "node 2 00",
            "node 2 01", "node 2", "node", "node 2 0 0", "node  2 0", "node 2  0", " node 2 0", "node 2 0 ", "Node 2 0",
            "nodes 2 0", "node 2 -1", "node +2 0", "node 2 x", "node2 0", "log 2 0", "collect", "make 2", "2 0", "drop 2 0",
            "node 100000 0", "node 2 none",
        ):
            self.not_kept(disk_of(encode_record(0, text) + encode_record(1, "make 1")))

    def test_the_record_itself(self):
        record = encode_record(0, "node 2 1")[0]
        for number in (1, 256, 65535):
            self.not_kept(disk_of(encode_record(number, "node 2 1")))
        for at in range(32):
            block = list(record)
            block[at] ^= 129
            self.not_kept(disk_of([block]))
        for index, many in ((0, 2), (1, 2), (0, 41), (0, 255), (1, 255)):
            self.not_kept(disk_of([[75, index, many] + record[3:]]))
        # In two pieces, of which the first one is not full.
        first, second = encode_record(0, "node 2")[0], encode_record(0, " 1")[0]
        self.not_kept(disk_of([[75, 0, 2] + first[3:], [75, 1, 2] + second[3:]]))

    def test_what_waits_is_read_and_flushed(self):
        disk = disk_of([])
        for at, block in enumerate(blocks_of_log(3, 2, [MAKE])):
            disk.write(at, block)
        log = open_log(disk)
        self.assertEqual(tell(log.node()), tell(replay(3, 2, [MAKE])))
        self.assertEqual(stored(disk), blocks_of_log(3, 2, [MAKE]) + [ZEROS] * 18)
        self.assertEqual(disk.pending_count(), 0)


class OpenTest(UnchangedCase):
    """Where a log ends; what stood behind is gone then."""

    def ends_after(self, events, blocks, nodes=2, number=0, size=60):
        """The log of these blocks has these events, and the disk nothing else behind them."""
        good = blocks_of_log(nodes, number, events)
        disk = disk_of(blocks, size)
        # What waits is part of what is read.
        disk.write(0, disk.read(0))
        log = open_log(disk)
        self.assertIs(type(log), Log)
        self.assertEqual(log.events(), list(events))
        self.assertEqual(tell(log.node()), tell(replay(nodes, number, events)))
        self.assertEqual(log.free_blocks(), size - len(good))
        self.assertEqual(read_all(disk), good + [ZEROS] * (size - len(good)))
        self.assertEqual((stored(disk), disk.pending_count()), (read_all(disk), 0))
        before = tell_log(disk, log)
        self.assertEqual(tell_log(disk, open_log(disk)), before)
        return disk, log

    def collects(self, first):
        """Records that collect, which are good behind the record with the number before first."""
        return [block for at in range(3) for block in encode_record(first + at, "collect")]

    def bad(self, *blocks, size=60):
        """The log ends at these blocks behind those of EVENTS, whatever comes behind them."""
        good = blocks_of_log(2, 0, EVENTS)
        for first in (5, 6):
            self.ends_after(EVENTS, [*good, *blocks, *self.collects(first)], size=size)

    def good(self, event, *blocks, size=60):
        """The log goes on by these blocks behind those of EVENTS, with this event."""
        events = (*EVENTS, event, *[("collect",)] * 3)
        self.ends_after(events, [*blocks_of_log(2, 0, EVENTS), *blocks, *self.collects(6)], size=size)

    def test_the_whole_log(self):
        for many in range(len(EVENTS) + 1):
            self.ends_after(EVENTS[:many], blocks_of_log(2, 0, EVENTS[:many]))
        self.ends_after([("collect",)] * 300, blocks_of_log(4, 3, [("collect",)] * 300), 4, 3, 400)
        self.good(("collect",), *encode_record(5, "collect"))
        self.bad(ZEROS)
        self.ends_after(EVENTS, blocks_of_log(2, 0, EVENTS) + self.collects(6))

    def test_records_with_another_number(self):
        for number in (0, 1, 4, 6, 5 + 256, 65535):
            self.bad(*encode_record(number, "make 0"))
        self.good(("make", 0), *encode_record(5, "make 0"))
        # Of records with numbers above 255 both bytes count.
        many = [("collect",)] * 255
        for number in (0, 255, 257, 512):
            blocks = blocks_of_log(2, 0, many) + encode_record(number, "collect") + encode_record(257, "collect")
            self.ends_after(many, blocks, size=400)
        self.ends_after(many + [("collect",)] * 2, blocks[:256] + encode_record(256, "collect") + blocks[-1:], size=400)

    def test_texts_that_are_no_event(self):
        for text in (
            "node 2 0", "jump", "make", "make 01", "make  1", "make 1 ", " make 1", "drop 000001", "collect 1", "MAKE 1",
            "receive 1 2 1", "receive 1 2 0 4 3 carried", "send 1 0 0 0 0 0", "remove 1 0 1 0", "reclaim 0 1", "write 0 0 None",
        ):
            self.bad(*encode_record(5, text))

    def test_events_that_the_node_cannot_perform(self):
        for event in (
            ("make", 5), ("drop", 0), ("drop", 9), ("read", 1, 0), ("read", 2, 1), ("write", 2, 0, 9), ("send", 0, ()),
            ("send", 2, ()), ("send", 1, (0,)), ("remove", ((1, 1),)), ("remove", ((0, 0),)),
            ("receive", (0, 0, 1, 0, (), ())), ("receive", (2, 0, 1, 0, (), ())), ("receive", (1, 0, 2, 2, (), ())),
            ("receive", (1, 0, 2, 0, (), (("return", 1),))),
        ):
            self.bad(*encode_record(5, write_event(event)))
        for event in (("make", 4), ("drop", 1), ("read", 2, 0), ("write", 2, 0, 1), ("send", 1, (1, 2)), ("remove", ((1, 0),))):
            self.good(event, *encode_record(5, write_event(event)))

    def test_messages_that_are_not_accepted(self):
        for message in ((1, 0, 1, 0, (), ()), (1, 0, 1, 1, (0,), (("export", 4),)), (1, 0, 0, 0, (), ())):
            self.bad(*encode_record(5, write_event(("receive", message))))
        event = ("receive", (1, 0, 2, 0, (), ()))
        self.good(event, *encode_record(5, write_event(event)))

    def long_record(self):
        """An event of five pieces, and its blocks as record 5."""
        event = ("receive", (1, 0, 7, 0, tuple(range(10000, 10014)), (("export", 3),)))
        record = encode_record(5, write_event(event))
        self.assertEqual(len(record), 5)
        return event, record

    def test_pieces_that_are_missing(self):
        event, record = self.long_record()
        self.good(event, *record)
        for at in range(5):
            self.bad(*record[:at], ZEROS, *record[at + 1:])
            self.bad(*record[:at], *record[at + 1:])
            self.ends_after(EVENTS, blocks_of_log(2, 0, EVENTS) + record[:at])

    def test_pieces_out_of_their_order(self):
        event, record = self.long_record()
        for order in itertools.permutations(range(5)):
            if order != tuple(range(5)):
                self.bad(*(record[at] for at in order))
        for at in range(4):
            self.bad(*record[:at], record[at], *record[at:])

    def test_pieces_of_another_record(self):
        event, record = self.long_record()
        for at in range(5):
            for place, byte in ((1, (at + 1) % 5), (2, 4), (2, 6), (2, 41), (3, 1), (4, 4), (4, 6), (5, 9), (31, 0)):
                block = list(record[at])
                block[place] = byte
                self.bad(*record[:at], block, *record[at + 1:])

    def test_pieces_that_are_not_full(self):
        parts = ("send 1", " 1 2")
        record = [[75, at, 2, *encode_record(5, part)[0][3:]] for at, part in enumerate(parts)]
        self.assertEqual([decode_piece(block) for block in record], [(0, 2, 5, "send 1"), (1, 2, 5, " 1 2")])
        self.bad(*record)
        self.good(("send", 1, (1, 2)), *encode_record(5, "".join(parts)))

    def test_more_than_40_pieces(self):
        for many, pieces in ((156, 40), (157, 41)):
            # Each of these entries takes six characters: 24 + 6 * 156 = 960.
            event = ("receive", (1, 0, 7000, 0, tuple(range(10000, 10000 + many)), ()))
            record = encode_record(5, write_event(event))
            self.assertEqual((len(write_event(event)), len(record)), (24 + 6 * many, pieces))
            self.assertEqual(read_event(0, write_event(event)), event)
            if pieces == 40:
                self.good(event, *record, size=80)
            else:
                self.bad(*record, size=80)

    def test_a_record_for_which_the_disk_has_no_room(self):
        event, _ = self.long_record()
        events = (*EVENTS, ("collect",), ("collect",))
        good = blocks_of_log(2, 0, events)
        record = encode_record(7, write_event(event))
        for size in range(len(good), len(good) + 5):
            self.ends_after(events, [*good, *record][:size], size=size)
        self.ends_after((*events, event), [*good, *record], size=len(good) + 5)

    def test_a_disk_that_the_log_fills_to_its_last_block(self):
        disk, log = self.ends_after([("collect",)] * 19, blocks_of_log(2, 0, [("collect",)] * 19), size=20)
        self.assertEqual(log.free_blocks(), 0)
        self.raises_unchanged(lambda: tell_log(disk, log), LogFull, None, log.append, ("collect",))
        # Nothing is left to write, but there is a flush.
        disk.schedule_cut(0, [])
        self.assertRaises(PowerCut, open_log, disk)

    def test_how_many_writes_it_takes(self):
        good = blocks_of_log(2, 0, EVENTS)
        for many in range(20 - len(good) + 1):
            disk = disk_of(good + [[9] * 32] * 3)
            disk.schedule_cut(many, [32] * 20)
            self.assertRaises(PowerCut, open_log, disk)
            self.assertEqual(disk.cut_count(), 1)
            self.assertEqual(open_log(disk).events(), list(EVENTS))
        disk = disk_of(good)
        disk.schedule_cut(20 - len(good) + 1, [])
        self.assertEqual(open_log(disk).events(), list(EVENTS))
        self.assertRaises(PowerCut, disk.flush)

    def test_drawn_blocks_behind_a_log(self):
        chance = random.Random(31)
        for _ in range(200):
            node = Node(3, 1)
            for _ in range(chance.randint(0, 6)):
                node.perform(draw_event(chance, node))
            good = blocks_of_log(3, 1, node.history())
            event = draw_event(chance, node)
            record = encode_record(1 + len(node.history()), write_event(event))
            at, place = chance.randrange(len(record)), chance.randrange(32)
            if chance.random() < 0.5:
                record[at][place] = chance.choice([byte for byte in range(256) if byte != record[at][place]])
            disk = disk_of([*good, *record, *encode_record(2 + len(node.history()), "collect")], 30)
            log = open_log(disk)
            self.assertEqual(log.events()[:len(node.history())], node.history())
            self.assertEqual(read_all(disk), (blocks_of_log(3, 1, log.events()) + [ZEROS] * 30)[:30])
            self.assertEqual((stored(disk), disk.pending_count()), (read_all(disk), 0))
            self.assertEqual(tell(log.node()), tell(replay(3, 1, log.events())))


class AppendTest(UnchangedCase):
    def test_what_append_returns_and_leaves(self):
        disk, log = new_log(20)
        used = 1
        for many, event in enumerate(EVENTS, 1):
            self.assertEqual(log.append(event), many)
            used += len(encode_record(many, write_event(event)))
            self.assertEqual(log.events(), list(EVENTS[:many]))
            self.assertEqual(tell(log.node()), tell(replay(2, 0, EVENTS[:many])))
            self.assertEqual(log.free_blocks(), 20 - used)
            self.assertEqual(read_all(disk), (blocks_of_log(2, 0, EVENTS[:many]) + [ZEROS] * 20)[:20])
            # The blocks wait for a flush.
            self.assertEqual(disk.pending_count(), used - 1)
            self.assertEqual(stored(disk), blocks_of_log(2, 0, ()) + [ZEROS] * 19)
        self.assertIsNone(log.sync())
        self.assertEqual((stored(disk), disk.pending_count()), (read_all(disk), 0))
        self.assertEqual(open_log(disk).events(), list(EVENTS))

    def test_behind_an_opening(self):
        disk, log = new_log(20, 3, 1, [MAKE])
        again = open_log(disk)
        self.assertEqual(again.append(("drop", 0)), 2)
        self.assertEqual(again.append(("collect",)), 3)
        again.sync()
        self.assertEqual(read_all(disk)[:4], blocks_of_log(3, 1, [MAKE, ("drop", 0), ("collect",)]))

    def test_what_the_caller_does_to_what_was_returned(self):
        disk, log = new_log(20, events=EVENTS)
        before = tell_log(disk, log)
        log.events().append(MAKE)
        log.events().clear()
        node = log.node()
        node.perform(("collect",))
        node.perform(("drop", 1))
        self.assertEqual(tell_log(disk, log), before)
        self.assertEqual(log.append(MAKE), 5)

    def test_no_room(self):
        for left in range(5):
            disk, log = new_log(8, events=[("collect",)] * (7 - left))
            self.assertEqual(log.free_blocks(), left)
            for many in range(1, 7):
                event = ("receive", (1, 0, 1, 0, tuple(range(10000, 10000 + 4 * (many - 1))), ()))
                need = len(encode_record(1, write_event(event)))
                if need > left:
                    self.raises_unchanged(lambda: tell_log(disk, log), LogFull, None, log.append, event)
            event = ("receive", (1, 0, 1, 0, tuple(range(10000, 10050)), ()))
            self.raises_unchanged(lambda: tell_log(disk, log), LogFull, None, log.append, event)
            for at in range(left):
                self.assertEqual(log.append(MAKE), 8 - left + at)
            self.raises_unchanged(lambda: tell_log(disk, log), LogFull, None, log.append, MAKE)

    def test_more_than_40_pieces(self):
        disk, log = new_log(400)
        for many in (157, 158, 200, 1000):
            event = ("receive", (1, 0, 7000, 0, tuple(range(10000, 10000 + many)), ()))
            self.raises_unchanged(lambda: (log.events(), log.free_blocks(), disk.pending_count()), LogFull, None, log.append, event)
        event = ("receive", (1, 0, 7000, 0, tuple(range(10000, 10156)), ()))
        self.assertEqual(log.append(event), 1)
        self.assertEqual((log.free_blocks(), disk.pending_count()), (359, 40))
        self.assertEqual(open_log(disk).events(), [event])

    def test_a_full_disk(self):
        disk, log = new_log(400)
        for many in range(1, 400):
            self.assertEqual(log.append(("collect",)), many)
        self.assertEqual(log.free_blocks(), 0)
        log.sync()
        self.raises_unchanged(lambda: (log.events(), disk.pending_count()), LogFull, None, log.append, ("collect",))
        again = open_log(disk)
        self.assertEqual((again.events(), again.free_blocks()), ([("collect",)] * 399, 0))
        self.assertEqual(read_all(disk)[399], encode_record(399, "collect")[0])


class NotOpenTest(UnchangedCase):
    def closed(self, disk, log):
        told = tell_log(disk, log)[:2]
        for event in (MAKE, ("drop", 77), ("receive", (1, 0, 1, 0, tuple(range(10000, 10200)), ()))):
            self.raises_unchanged(lambda: tell_disk(disk), NotOpen, None, log.append, event)
        self.raises_unchanged(lambda: tell_disk(disk), NotOpen, None, log.sync)
        self.assertEqual(tell_log(disk, log)[:2], told)

    def test_after_a_cut_of_the_disk(self):
        for torn in ([], [32] * 9):
            disk, log = new_log(8, events=[MAKE])
            log.append(("drop", 0))
            other = open_log(copy.deepcopy(disk))
            disk.cut_power(torn)
            self.closed(disk, log)
            again = open_log(disk)
            self.assertEqual(again.events(), [MAKE, ("drop", 0)] if torn else [MAKE])
            # The old log does not come back by that, and a new one is there.
            self.closed(disk, log)
            self.assertEqual(again.append(("collect",)), len(again.events()))
            again.sync()
            # A log of another disk is still open.
            other.append(("collect",))
            other.sync()

    def test_cuts_in_append_and_sync(self):
        event = ("receive", (1, 0, 1, 0, tuple(range(10000, 10008)), ()))
        many = len(encode_record(1, write_event(event)))
        self.assertEqual(many, 3)
        for after in range(many + 1):
            disk, log = new_log(8, events=[MAKE])
            disk.schedule_cut(after, [])
            if after < many:
                self.assertRaises(PowerCut, log.append, event)
                self.assertEqual(log.events(), [MAKE])
            else:
                self.assertEqual(log.append(event), 2)
                self.assertRaises(PowerCut, log.sync)
            self.closed(disk, log)
            self.assertEqual(open_log(disk).events(), [MAKE])

    def test_a_full_log_says_first_that_it_is_not_open(self):
        disk, log = new_log(8, events=[("collect",)] * 7)
        self.raises_unchanged(lambda: tell_disk(disk), LogFull, None, log.append, MAKE)
        # LogFull comes ahead of PowerCut.
        disk.schedule_cut(0, [])
        self.raises_unchanged(lambda: disk.cut_count(), LogFull, None, log.append, MAKE)
        disk.cut_power([])
        self.raises_unchanged(lambda: tell_disk(disk), NotOpen, None, log.append, MAKE)

    def test_cuts_before_the_opening_do_not_matter(self):
        disk, _ = new_log(8, events=[MAKE])
        disk.cut_power([])
        disk.cut_power([])
        log = open_log(disk)
        self.assertEqual(log.append(("collect",)), 2)
        log.sync()
        self.assertEqual(open_log(disk).events(), [MAKE, ("collect",)])


if __name__ == "__main__":
    unittest.main()
