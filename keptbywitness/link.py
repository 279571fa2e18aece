"""A link: a house for each node, and the letters between them in a row."""

from keptbywitness.disks import Disk
from keptbywitness.errors import NoLetter, OutOfRange
from keptbywitness.house import House
from keptbywitness.log import format_disk
from keptbywitness.nodes import is_network_size

# The place of the receiver in a message.
_RECEIVER = 1


class Link:
    """Houses on disks of their own, and the letters on their way."""

    def __init__(self, nodes, blocks):
        if not is_network_size(nodes):
            raise OutOfRange("nodes")
        self._disks = []
        for number in range(nodes):
            disk = Disk(blocks)
            format_disk(disk, nodes, number)
            self._disks.append(disk)
        # For each node the house that was opened last, also if it is not open any more.
        self._houses = [House(disk) for disk in self._disks]
        # The eldest first.
        self._letters = []

    def perform(self, node, event):
        """An event of the house of a node; a message and a report become letters."""
        self._check_node(node)
        if event[0] == "receive":
            raise OutOfRange("event")
        given = self._houses[node].perform(event)
        if event[0] == "send":
            self._letters.append(("message", given))
        elif event[0] == "report":
            others = [number for number in range(len(self._houses)) if number != node]
            self._letters.extend([("report", to, given) for to in others])
        return given

    def reclaim(self, node, group):
        """The house of a node reclaims; the entries that are removed."""
        self._check_node(node)
        return self._houses[node].reclaim(group)

    def sync(self, node):
        """The house of a node syncs all its events; how many there are."""
        self._check_node(node)
        return self._houses[node].sync()

    def letters(self):
        """The list of the letters, the eldest first."""
        return list(self._letters)

    def drop(self, at):
        """Takes a letter out of the row; it is lost."""
        self._letter(at)
        del self._letters[at]

    def duplicate(self, at):
        """Puts a second one of a letter at the end of the row."""
        self._letters.append(self._letter(at))

    def deliver(self, at):
        """Takes a letter out of the row, for its house if that is open; what this gives."""
        letter = self._letter(at)
        del self._letters[at]
        if letter[0] == "report":
            _, to, report = letter
            if self.is_open(to):
                self._houses[to].hear(report)
            return None
        message = letter[1]
        if not self.is_open(message[_RECEIVER]):
            return None
        return self._houses[message[_RECEIVER]].perform(("receive", message))

    def nodes(self):
        """The list of new nodes like those of the houses, also of those that are not open."""
        return [house.node() for house in self._houses]

    def is_open(self, node):
        """Whether the house of a node is open."""
        self._check_node(node)
        return self._houses[node].is_open()

    def cut_power(self, node, torn):
        """Cuts the power of the disk of a node now."""
        self._check_node(node)
        self._disks[node].cut_power(torn)

    def schedule_cut(self, node, many, torn):
        """Schedules a cut of the power of the disk of a node."""
        self._check_node(node)
        self._disks[node].schedule_cut(many, torn)

    def reopen(self, node):
        """Opens a new house on the disk of a node; its count of events."""
        self._check_node(node)
        self._houses[node] = House(self._disks[node])
        return self._houses[node].count()

    def _check_node(self, node):
        """Raises OutOfRange if there is no such node."""
        if not 0 <= node < len(self._disks):
            raise OutOfRange("node")

    def _letter(self, at):
        """The letter at this place of the row."""
        if not 0 <= at < len(self._letters):
            raise NoLetter("there is no such letter")
        return self._letters[at]
