"""Disks and logs for the tests: what a disk stores, disks that hold given records, events that are drawn."""

import copy
import random

from keptbywitness.blocks import encode_record
from keptbywitness.disks import Disk
from keptbywitness.events import write_event
from keptbywitness.log import format_disk, open_log
from draws import draw_wrong_event
from models import outcome, tell

ZEROS = [0] * 32


def read_all(disk):
    return [disk.read(at) for at in range(disk.size())]


def stored(disk):
    """The blocks that the disk has without the waiting writes."""
    other = copy.deepcopy(disk)
    other.cut_power([])
    return read_all(other)


def tell_disk(disk):
    """All that a disk tells, and what it stores."""
    return (read_all(disk), stored(disk), disk.pending_count(), disk.cut_count())


def disk_of(blocks, size=20):
    """A disk that stores these blocks, and zeros behind them."""
    disk = Disk(size)
    for at, block in enumerate(blocks):
        disk.write(at, block)
    disk.flush()
    return disk


def records_of(texts):
    """The blocks of the records of these texts, from record 0 on."""
    return [block for number, text in enumerate(texts) for block in encode_record(number, text)]


def blocks_of_log(nodes, number, events):
    """The blocks of the log of a node with these events."""
    return records_of([f"node {nodes} {number}", *map(write_event, events)])


def new_log(size=20, nodes=2, number=0, events=()):
    """A disk and its log, to which the events have been appended and synced."""
    disk = Disk(size)
    format_disk(disk, nodes, number)
    log = open_log(disk)
    for event in events:
        log.append(event)
    log.sync()
    return disk, log


def dirty_disk(seed, size=20):
    """A disk that has had other content, some of which still waits."""
    chance = random.Random(seed)
    disk = disk_of([[chance.randint(0, 255) for _ in range(32)] for _ in range(size)], size)
    for at in range(0, size, 3):
        disk.write(at, encode_record(at, "drop 5")[0])
    return disk


def draw_event(chance, node):
    """An event that the node can perform, which gets an event of its history thereby."""
    while True:
        event = chance.choice((draw_wrong_event(chance, node, []),) * 6 + (("make", 2), ("collect",), ("report",)))
        result = outcome(node.twin().perform, event)
        if result[0] == "gave" and not (event[0] == "receive" and result[1] is None):
            return event


def tell_log(disk, log):
    """All that a log tells, and its disk."""
    return (tell(log.node()), log.events(), log.free_blocks(), tell_disk(disk))
