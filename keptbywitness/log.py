"""A log on a disk: the events of a node as records, one after another from block 0 on."""

from keptbywitness.blocks import PIECES_MOST, decode_piece, encode_record
from keptbywitness.disks import BLOCK
from keptbywitness.errors import KeepError, LogFull, NotKept, NotOpen, OutOfRange
from keptbywitness.events import read_event, read_numbers, write_event
from keptbywitness.nodes import Node, is_passed_over, replay


class Log:
    """The log of a disk, for as long as the power of the disk is not cut."""

    def __init__(self, disk, nodes, number, events, used):
        self._disk = disk
        self._cuts = disk.cut_count()
        self._nodes = nodes
        self._number = number
        self._events = list(events)
        # How many blocks the records have.
        self._used = used

    def node(self):
        """A new node that has performed the events of the log."""
        return replay(self._nodes, self._number, self._events)

    def events(self):
        """The list of the events."""
        return list(self._events)

    def append(self, event):
        """Writes the record of an event, which then waits for a flush; how many events there are then."""
        self._check_open()
        blocks = encode_record(1 + len(self._events), write_event(event))
        if len(blocks) > self.free_blocks() or len(blocks) > PIECES_MOST:
            raise LogFull("there is no room for the record")
        for at, block in enumerate(blocks, self._used):
            self._disk.write(at, block)
        self._used += len(blocks)
        self._events.append(event)
        return len(self._events)

    def sync(self):
        """Flushes the disk."""
        self._check_open()
        self._disk.flush()

    def free_blocks(self):
        """How many blocks are left."""
        return self._disk.size() - self._used

    def is_open(self):
        """Whether the power of the disk has not been cut since the log was opened."""
        return self._disk.cut_count() == self._cuts

    def _check_open(self):
        """Raises NotOpen if the log can no longer be used."""
        if not self.is_open():
            raise NotOpen("the power of the disk was cut")


def format_disk(disk, nodes, number):
    """Writes the log of a new node over all that the disk has."""
    # Made only because it raises the errors for what is the number of no node.
    Node(nodes, number)
    blocks = encode_record(0, f"node {nodes} {number}")
    for at, block in enumerate(blocks):
        disk.write(at, block)
    _write_zeros(disk, len(blocks))
    disk.flush()


def open_log(disk):
    """The log of the disk, from which all that follows the last good record is removed."""
    head = _read_record(disk, 0, 0)
    node = None if head is None else _new_node(head[0])
    if node is None:
        raise NotKept("the disk holds no log")
    used = head[1]
    many = _follow_record(disk, used, node)
    while many > 0:
        used += many
        many = _follow_record(disk, used, node)
    _write_zeros(disk, used)
    disk.flush()
    return Log(disk, node.nodes(), node.number(), node.history(), used)


def _write_zeros(disk, first):
    """Writes zeros to all blocks from first on."""
    for at in range(first, disk.size()):
        disk.write(at, [0] * BLOCK)


def _read_record(disk, at, number):
    """The text of the record with this number in the blocks from at on, and how many these are; or None."""
    first = decode_piece(disk.read(at)) if at < disk.size() else None
    if first is None:
        return None
    many = first[1]
    if many > PIECES_MOST or at + many > disk.size():
        return None
    blocks = [disk.read(place) for place in range(at, at + many)]
    pieces = [decode_piece(block) for block in blocks]
    if any([piece is None for piece in pieces]):
        return None
    text = "".join([piece[3] for piece in pieces])
    # Written again, it shows that all pieces are of this record, full, and in their order.
    return (text, many) if encode_record(number, text) == blocks else None


def _new_node(text):
    """The new node of which the text of record 0 tells, or None."""
    word, *rest = text.split(" ")
    numbers = read_numbers(rest)
    if word != "node" or numbers is None or len(numbers) != 2:
        return None
    nodes, number = numbers
    try:
        return Node(nodes, number)
    except OutOfRange:
        return None


def _follow_record(disk, at, node):
    """Lets the node perform the event of its next record, from block at on; how many blocks that has, or 0."""
    record = _read_record(disk, at, 1 + len(node.history()))
    if record is None:
        return 0
    text, many = record
    event = read_event(node.number(), text)
    return many if event is not None and _is_performed(node, event) else 0


def _is_performed(node, event):
    """Performs an event if the node can; whether it has."""
    try:
        given = node.perform(event)
    except KeepError:
        return False
    return not is_passed_over(event, given)
