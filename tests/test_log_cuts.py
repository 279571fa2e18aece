"""Points 28, 31 and 33: whatever is cut, a log that is opened has a beginning of the events, with all that were flushed."""

import copy
import random
import unittest

from keptbywitness.disks import Disk
from keptbywitness.errors import LogFull, NotOpen, PowerCut
from keptbywitness.log import format_disk, open_log
from keptbywitness.nodes import Node, replay
from cases import UnchangedCase
from models import tell
from stores import ZEROS, blocks_of_log, draw_event, read_all, stored


def draw_torn(chance, many):
    """How many bytes of so many waiting writes are stored: all, none, or any number."""
    kind = chance.choice(("none", "all", "first", "some", "any", "any"))
    if kind == "none":
        return []
    if kind == "all":
        return [32] * many
    if kind == "first":
        return [32] * chance.randint(0, many) + [chance.randint(0, 32)]
    if kind == "some":
        return [chance.choice((0, 32)) for _ in range(many)]
    return [chance.randint(0, 32) for _ in range(many)]


class CutCase(UnchangedCase):
    def open_again(self, chance, disk, appended, safe):
        """The log of the disk after a cut, which has all safe events, and others only as they were appended."""
        while True:
            if chance.random() < 0.4:
                disk.schedule_cut(chance.randint(0, disk.size()), draw_torn(chance, disk.size()))
            try:
                log = open_log(disk)
            except PowerCut:
                self.cut_openings += 1
                continue
            break
        events = log.events()
        self.assertEqual(events, appended[:len(events)])
        self.assertGreaterEqual(len(events), safe)
        good = blocks_of_log(2, 0, events)
        self.assertEqual(read_all(disk), good + [ZEROS] * (disk.size() - len(good)))
        self.assertEqual((stored(disk), disk.pending_count()), (read_all(disk), 0))
        self.assertEqual(log.free_blocks(), disk.size() - len(good))
        self.assertEqual(tell(log.node()), tell(replay(2, 0, events)))
        return log

    def setUp(self):
        self.cut_openings = 0


class EveryCutTest(CutCase):
    def drawn_history(self, chance, many):
        node = Node(2, 0)
        # A record of several pieces is among them.
        node.perform(("receive", (1, 0, 1, 0, tuple(range(10000, 10011)), (("export", 0), ("export", 1)))))
        while len(node.history()) < many:
            node.perform(draw_event(chance, node))
        return node.history()

    def test_behind_every_number_of_writes_and_flushes(self):
        chance = random.Random(28)
        partly = 0
        for _ in range(4):
            history = self.drawn_history(chance, 10)
            syncs = {chance.randrange(10) for _ in range(3)}
            total = len(blocks_of_log(2, 0, history)) - 1 + len(syncs)
            for many in range(total + 1):
                for _ in range(6):
                    disk = Disk(40)
                    format_disk(disk, 2, 0)
                    log, safe = open_log(disk), 0
                    disk.schedule_cut(many, draw_torn(chance, 40))
                    appended = []
                    try:
                        for at, event in enumerate(history):
                            log.append(event)
                            appended.append(event)
                            if at in syncs:
                                log.sync()
                                safe = len(appended)
                        disk.cut_power(draw_torn(chance, 40))
                    except PowerCut:
                        pass
                    self.assertEqual((disk.cut_count(), log.events()), (1, appended))
                    self.assertRaises(NotOpen, log.sync)
                    self.assertRaises(NotOpen, log.append, ("collect",))
                    found = len(self.open_again(chance, disk, history, safe).events())
                    partly += safe < found < len(appended)
        self.assertGreater(partly, 5)
        self.assertGreater(self.cut_openings, 50)

    def test_openings_cut_behind_every_number_of_writes(self):
        chance = random.Random(31)
        history = self.drawn_history(chance, 8)
        for kept in range(9):
            good = blocks_of_log(2, 0, history[:kept])
            disk = Disk(30)
            format_disk(disk, 2, 0)
            log = open_log(disk)
            for event in history[:kept]:
                log.append(event)
            log.sync()
            for event in history[kept:]:
                log.append(event)
            # Of what was not synced, all blocks but the first one are there.
            behind = len(blocks_of_log(2, 0, history)) - len(good)
            disk.cut_power([0] + [32] * (behind - 1) if behind else [])
            for many in range(30 - len(good) + 1):
                for torn in ([], [32] * 30, [1] * 30, [31] * 30, draw_torn(chance, 30), draw_torn(chance, 30)):
                    other = copy.deepcopy(disk)
                    other.schedule_cut(many, torn)
                    self.assertRaises(PowerCut, open_log, other)
                    self.assertEqual(self.open_again(chance, other, history[:kept], kept).events(), history[:kept])


class DrawnCoursesTest(CutCase):
    def test_drawn_courses(self):
        chance = random.Random(33)
        seen = {"lost": 0, "more": 0, "full": 0}
        for _ in range(120):
            disk = Disk(chance.choice((8, 15, 40, 90)))
            format_disk(disk, 2, 0)
            self.run_course(chance, disk, seen)
        for word, many in seen.items():
            self.assertGreater(many, 30, word)
        self.assertGreater(self.cut_openings, 100)

    def run_course(self, chance, disk, seen):
        log, safe = open_log(disk), 0
        node = log.node()
        for _ in range(50):
            event, closing = None, chance.random() < 0.06
            appended = log.events()
            try:
                if closing:
                    disk.cut_power(draw_torn(chance, 12))
                elif chance.random() < 0.1:
                    disk.schedule_cut(chance.randint(0, 12), draw_torn(chance, 12))
                elif chance.random() < 0.2:
                    log.sync()
                    safe = len(appended)
                elif chance.random() < 0.05:
                    # Opened without a cut: what waits is not lost.
                    log = open_log(disk)
                    self.assertEqual(log.events(), appended)
                    safe = len(appended)
                else:
                    event = draw_event(chance, node)
                    self.assertEqual(log.append(event), len(appended) + 1)
                    node.perform(event)
            except LogFull:
                seen["full"] += 1
                self.assertEqual(log.events(), appended)
            except PowerCut:
                closing = True
                self.assertEqual(log.events(), appended)
            if closing:
                self.assertRaises(NotOpen, log.append, ("collect",))
                log = self.open_again(chance, disk, appended, safe)
                seen["lost"] += len(log.events()) < len(appended)
                seen["more"] += len(log.events()) > safe
                safe, node = len(log.events()), log.node()


if __name__ == "__main__":
    unittest.main()
