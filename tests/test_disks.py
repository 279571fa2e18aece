"""Points 2, 27 and 28: reading, writing and flushing, and cuts of the power, now and scheduled."""

import random
import unittest

from keptbywitness import disks
from keptbywitness.disks import Disk
from keptbywitness.errors import OutOfRange, PowerCut
from cases import UnchangedCase

ZEROS = [0] * 32


def full(byte):
    return [byte] * 32


def tell_disk(disk):
    """All that a disk tells of itself."""
    return (disk.size(), [disk.read(at) for at in range(disk.size())], disk.pending_count(), disk.cut_count())


class DiskCase(UnchangedCase):
    def refuses(self, disk, name, call, *arguments):
        """The call raises OutOfRange with this name, and changes nothing that the disk tells."""
        self.raises_unchanged(lambda: tell_disk(disk), OutOfRange, name, call, *arguments)

    def is_cut(self, disk, call, *arguments):
        cuts = disk.cut_count()
        with self.assertRaises(PowerCut):
            call(*arguments)
        self.assertEqual((disk.cut_count(), disk.pending_count()), (cuts + 1, 0))


class ReadAndWriteTest(DiskCase):
    def test_constants(self):
        self.assertEqual((disks.BLOCK, disks.BLOCKS_MOST), (32, 400))

    def test_sizes(self):
        for blocks in (8, 9, 50, 399, 400):
            disk = Disk(blocks)
            self.assertEqual(tell_disk(disk), (blocks, [ZEROS] * blocks, 0, 0))
        for blocks in (-8, 0, 1, 7, 401, 402, 1000):
            with self.assertRaises(OutOfRange) as caught:
                Disk(blocks)
            self.assertEqual(caught.exception.name, "blocks")

    def test_places(self):
        for blocks in (8, 400):
            disk = Disk(blocks)
            for at in (-1, -blocks, blocks, blocks + 1):
                self.refuses(disk, "at", disk.read, at)
                self.refuses(disk, "at", disk.write, at, full(1))
                self.refuses(disk, "at", disk.write, at, [])
            for at in (0, blocks - 1):
                disk.write(at, full(at & 255))
                self.assertEqual(disk.read(at), full(at & 255))

    def test_blocks_that_are_none(self):
        disk = Disk(8)
        for block in ([], [0], full(1)[:31], full(1) + [0], full(0) * 2):
            self.refuses(disk, "block", disk.write, 0, block)
        for at in range(32):
            for byte in (-1, 256, 1000, -256):
                self.refuses(disk, "block", disk.write, 7, ZEROS[:at] + [byte] + ZEROS[at + 1:])
        for byte in (0, 1, 254, 255):
            self.assertIsNone(disk.write(0, full(byte)))
            self.assertEqual(disk.read(0), full(byte))

    def test_writes_wait_for_a_flush(self):
        disk = Disk(8)
        for many, (at, byte) in enumerate(((3, 1), (4, 2), (3, 5), (0, 9)), 1):
            self.assertIsNone(disk.write(at, full(byte)))
            self.assertEqual(disk.pending_count(), many)
            self.assertEqual(disk.read(at), full(byte))
        self.assertIsNone(disk.flush())
        self.assertEqual(disk.pending_count(), 0)
        self.assertEqual([disk.read(at)[0] for at in range(8)], [9, 0, 0, 5, 2, 0, 0, 0])
        disk.flush()
        disk.cut_power([])
        self.assertEqual([disk.read(at)[31] for at in range(8)], [9, 0, 0, 5, 2, 0, 0, 0])

    def test_blocks_of_the_caller(self):
        disk = Disk(8)
        block = full(1)
        disk.write(2, block)
        block[0] = 9
        self.assertEqual(disk.read(2), full(1))
        disk.read(2)[3] = 9
        disk.read(2).append(9)
        self.assertEqual(disk.read(2), full(1))
        disk.flush()
        block[1] = 9
        disk.read(2)[4] = 9
        disk.read(3)[4] = 9
        self.assertEqual((disk.read(2), disk.read(3), disk.read(0)), (full(1), ZEROS, ZEROS))
        self.assertEqual(len(block), 32)
        disk.write(5, full(4))
        disk.write(6, disk.read(5))
        disk.cut_power([32])
        self.assertEqual((disk.read(5), disk.read(6)), (full(4), ZEROS))

    def test_disks_do_not_share_anything(self):
        one, other = Disk(8), Disk(8)
        one.write(0, full(3))
        one.flush()
        one.write(1, full(3))
        one.schedule_cut(0, [])
        other.write(0, full(4))
        self.assertEqual(other.pending_count(), 1)
        self.assertEqual((one.read(0), other.read(0), other.read(1)), (full(3), full(4), ZEROS))


class CutTest(DiskCase):
    def test_what_the_waiting_writes_store(self):
        for torn, expected in (
            ([], (0, 0, 0)), ([32], (32, 0, 0)), ([0, 32], (0, 32, 0)), ([1, 31, 5], (1, 31, 5)), ([0, 0, 0], (0, 0, 0)),
            ([32, 32, 32], (32, 32, 32)), ([7, 8, 9, 10, 11], (7, 8, 9)), ([0, 0, 0, 32, 32], (0, 0, 0)),
        ):
            disk = Disk(8)
            disk.write(4, full(7))
            disk.flush()
            for at, byte in enumerate((1, 2, 3), 4):
                disk.write(at, full(byte))
            self.assertIsNone(disk.cut_power(torn))
            self.assertEqual((disk.pending_count(), disk.cut_count()), (0, 1))
            for at, (byte, many, before) in enumerate(zip((1, 2, 3), expected, (7, 0, 0)), 4):
                self.assertEqual(disk.read(at), [byte] * many + [before] * (32 - many))
            disk.flush()
            self.assertEqual(disk.read(6), [3] * expected[2] + [0] * (32 - expected[2]))

    def test_several_waiting_writes_of_one_block(self):
        disk = Disk(8)
        for byte in (1, 2, 3, 4):
            disk.write(0, full(byte))
        disk.cut_power([20, 0, 10, 5])
        self.assertEqual(disk.read(0), [4] * 5 + [3] * 5 + [1] * 10 + [0] * 12)

    def test_without_waiting_writes(self):
        disk = Disk(8)
        disk.write(0, full(1))
        disk.flush()
        for many in (1, 2, 3):
            disk.cut_power([0, 32])
            self.assertEqual((disk.read(0), disk.pending_count(), disk.cut_count()), (full(1), 0, many))

    def test_items_out_of_range(self):
        disk = Disk(8)
        disk.write(0, full(1))
        for torn in ([-1], [33], [0, 33], [32, -1, 0], [100], [0, 0, 0, 0, 33]):
            self.refuses(disk, "torn", disk.cut_power, torn)
            self.refuses(disk, "torn", disk.schedule_cut, 0, torn)
        # None of these has scheduled anything.
        disk.flush()
        self.assertEqual(disk.read(0), full(1))


class ScheduleTest(DiskCase):
    def test_after_so_many_writes_and_flushes(self):
        for many in range(6):
            disk = Disk(8)
            disk.write(7, full(7))
            self.assertIsNone(disk.schedule_cut(many, [32, 3]))
            self.assertEqual((disk.pending_count(), disk.cut_count()), (1, 0))
            for at in range(many):
                # Both count, and reading does not.
                disk.read(at)
                if at == 2:
                    disk.flush()
                else:
                    disk.write(at, full(at + 1))
            self.assertEqual(disk.cut_count(), 0)
            last = disk.flush if many == 4 else None
            self.is_cut(disk, *((last,) if last else (disk.write, 6, full(9))))
            self.assertEqual(disk.read(6), ZEROS)
            disk.write(6, full(9))
            disk.flush()
            self.assertEqual((disk.read(6), disk.cut_count()), (full(9), 1))

    def test_the_one_that_is_cut_does_nothing_itself(self):
        disk = Disk(8)
        disk.write(0, full(1))
        disk.schedule_cut(0, [])
        self.is_cut(disk, disk.flush)
        self.assertEqual(disk.read(0), ZEROS)
        disk.write(0, full(1))
        disk.schedule_cut(0, [5, 32])
        self.is_cut(disk, disk.write, 1, full(2))
        self.assertEqual((disk.read(0), disk.read(1)), ([1] * 5 + [0] * 27, ZEROS))

    def test_many(self):
        disk = Disk(8)
        disk.write(0, full(1))
        for many in (-1, -5, 100001, 200000):
            self.refuses(disk, "many", disk.schedule_cut, many, [])
            self.refuses(disk, "many", disk.schedule_cut, many, [33])
        disk.flush()
        for many in (0, 1, 100000):
            self.assertIsNone(disk.schedule_cut(many, []))
        for _ in range(100000):
            disk.flush()
        self.assertEqual(disk.cut_count(), 0)
        self.is_cut(disk, disk.flush)
        disk.flush()

    def test_a_schedule_that_is_refused_leaves_the_one_there_was(self):
        for many, torn, name in ((-1, [3], "many"), (100001, [], "many"), (0, [33], "torn"), (5, [0, -1], "torn")):
            disk = Disk(8)
            disk.schedule_cut(1, [32, 9])
            disk.write(0, full(1))
            self.refuses(disk, name, disk.schedule_cut, many, torn)
            self.is_cut(disk, disk.flush)
            self.assertEqual(disk.read(0), full(1))

    def test_scheduling_again_replaces_the_schedule(self):
        for first, second in ((0, 2), (5, 0), (5, 1), (3, 3)):
            disk = Disk(8)
            disk.schedule_cut(first, [32] * 9)
            disk.schedule_cut(second, [2])
            for at in range(second):
                disk.write(at, full(1))
            self.is_cut(disk, disk.write, 7, full(1))
            self.assertEqual(disk.read(0), [1] * 2 + [0] * 30 if second else ZEROS)
            for _ in range(20):
                disk.flush()
            self.assertEqual(disk.cut_count(), 1)

    def test_a_cut_ends_the_schedule(self):
        disk = Disk(8)
        disk.schedule_cut(1, [])
        disk.cut_power([])
        for _ in range(5):
            disk.write(0, full(1))
            disk.flush()
        self.assertEqual(disk.cut_count(), 1)
        disk.schedule_cut(0, [])
        self.is_cut(disk, disk.flush)
        for _ in range(5):
            disk.write(0, full(2))
            disk.flush()
        self.assertEqual((disk.cut_count(), disk.read(0)), (2, full(2)))

    def test_a_cut_that_is_refused_does_not_end_it(self):
        disk = Disk(8)
        disk.schedule_cut(0, [])
        self.refuses(disk, "torn", disk.cut_power, [33])
        self.is_cut(disk, disk.flush)

    def test_a_write_that_is_refused_does_not_count(self):
        disk = Disk(8)
        disk.schedule_cut(1, [])
        for _ in range(3):
            self.refuses(disk, "at", disk.write, 8, ZEROS)
            self.refuses(disk, "block", disk.write, 0, [])
        disk.write(0, ZEROS)
        # Also where it would be the one that is cut.
        self.refuses(disk, "at", disk.write, -1, ZEROS)
        self.refuses(disk, "block", disk.write, 0, full(256))
        self.is_cut(disk, disk.write, 0, ZEROS)

    def test_a_list_of_the_caller(self):
        disk = Disk(8)
        torn = [3]
        disk.schedule_cut(1, torn)
        torn[0] = 9
        torn.append(4)
        disk.write(0, full(1))
        self.is_cut(disk, disk.flush)
        self.assertEqual(disk.read(0), [1] * 3 + [0] * 29)
        self.assertEqual(torn, [9, 4])


class DrawnTest(DiskCase):
    def test_drawn_calls(self):
        """By plain lists of blocks and of waiting writes."""
        chance = random.Random(27)
        cuts = 0
        for _ in range(150):
            disk, blocks, waiting, left, told = Disk(9), [ZEROS] * 9, [], None, 0
            for _ in range(chance.randint(5, 60)):
                word = chance.choice(("write",) * 6 + ("flush", "schedule", "cut"))
                torn = [chance.choice((0, 32, chance.randint(0, 32))) for _ in range(chance.randint(0, 6))]
                at, block = chance.randrange(9), [chance.randint(0, 255) for _ in range(32)]
                arguments = (at, block) if word == "write" else ()
                if word == "schedule":
                    left, later = chance.randint(0, 6), torn
                    disk.schedule_cut(left, torn)
                elif word == "cut" or left == 0:
                    if word == "cut":
                        disk.cut_power(torn)
                    else:
                        self.is_cut(disk, getattr(disk, word), *arguments)
                    for (place, new), many in zip(waiting, torn if word == "cut" else later):
                        blocks[place] = new[:many] + blocks[place][many:]
                    waiting, left, told = [], None, told + 1
                else:
                    left = None if left is None else left - 1
                    self.assertIsNone(getattr(disk, word)(*arguments))
                    waiting += [arguments] if word == "write" else []
                    if word == "flush":
                        for place, new in waiting:
                            blocks[place] = new
                        waiting = []
                now = list(blocks)
                for place, new in waiting:
                    now[place] = new
                self.assertEqual(tell_disk(disk), (9, now, len(waiting), told))
            cuts += told
        self.assertGreater(cuts, 300)


if __name__ == "__main__":
    unittest.main()
