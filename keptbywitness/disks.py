"""A disk of blocks, whose writes wait for a flush, and whose power can be cut."""

from keptbywitness.errors import OutOfRange, PowerCut

BLOCK = 32
BLOCKS_MOST = 400

_BLOCKS_LEAST = 8
_BYTE_MOST = 255
_SCHEDULE_MOST = 100000


class Disk:
    """So many blocks, and the writes that wait for a flush."""

    def __init__(self, blocks):
        if not _BLOCKS_LEAST <= blocks <= BLOCKS_MOST:
            raise OutOfRange("blocks")
        self._blocks = [[0] * BLOCK for _ in range(blocks)]
        # The writes that wait, as tuples (at, block), the eldest first.
        self._waiting = []
        self._cuts = 0
        # How many writes and flushes there still are before the cut; None without a schedule.
        self._left = None
        self._torn = []

    def size(self):
        """How many blocks the disk has."""
        return len(self._blocks)

    def read(self, at):
        """A new list of what the block would be if the waiting writes were performed."""
        self._check_at(at)
        for place, block in self._waiting[::-1]:
            if place == at:
                return list(block)
        return list(self._blocks[at])

    def write(self, at, block):
        """Lets the block wait for a flush, in place of the one that is there."""
        self._check_at(at)
        if len(block) != BLOCK or not all([0 <= byte <= _BYTE_MOST for byte in block]):
            raise OutOfRange("block")
        self._count_down()
        self._waiting.append((at, list(block)))

    def flush(self):
        """Performs all waiting writes, in order."""
        self._count_down()
        self._store([BLOCK] * len(self._waiting))

    def pending_count(self):
        """How many writes wait."""
        return len(self._waiting)

    def cut_count(self):
        """How often the power was cut."""
        return self._cuts

    def cut_power(self, torn):
        """Cuts the power now; of waiting write number i only the first torn[i] bytes are stored."""
        _check_torn(torn)
        self._cut(torn)

    def schedule_cut(self, many, torn):
        """Lets the power be cut at the first write or flush after so many further ones."""
        if not 0 <= many <= _SCHEDULE_MOST:
            raise OutOfRange("many")
        _check_torn(torn)
        self._left = many
        self._torn = list(torn)

    def _check_at(self, at):
        """Raises OutOfRange if there is no such block."""
        if not 0 <= at < len(self._blocks):
            raise OutOfRange("at")

    def _count_down(self):
        """Counts a write or a flush; cuts the power and raises PowerCut if the schedule has come to its end."""
        if self._left is None:
            return
        if self._left == 0:
            self._cut(self._torn)
            raise PowerCut("the power was cut")
        self._left -= 1

    def _cut(self, torn):
        """Cuts the power."""
        self._store(torn)
        self._cuts += 1
        self._left = None

    def _store(self, many):
        """Stores of waiting write number i the first many[i] bytes, or none where many is shorter; no write waits."""
        for (at, block), stored in zip(self._waiting, many):
            self._blocks[at][:stored] = block[:stored]
        self._waiting = []


def _check_torn(torn):
    """Raises OutOfRange if an item is no number of bytes of a block."""
    if not all([0 <= many <= BLOCK for many in torn]):
        raise OutOfRange("torn")
