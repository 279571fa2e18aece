"""A house: a node whose events are kept in the log of a disk."""

from keptbywitness.errors import NoReport, NotOpen, OutOfRange
from keptbywitness.groups import is_group
from keptbywitness.log import open_log
from keptbywitness.nodes import is_passed_over


class House:
    """The node of a log, to which each of its events is appended ahead of all else."""

    def __init__(self, disk):
        self._log = open_log(disk)
        self._node = self._log.node()
        # For each other node the last report heard.
        self._heard = {}

    def perform(self, event):
        """Performs an event of the node, which is in the log before anybody learns of it."""
        self._check_open()
        if event[0] == "remove":
            raise OutOfRange("event")
        # A twin tries the event, so that what the node refuses is not appended, and
        # the node stays as it was if the power is cut.
        trial = self._node.twin()
        given = trial.perform(event)
        if is_passed_over(event, given):
            return None
        self._log.append(event)
        if event[0] in ("send", "report"):
            self._log.sync()
        self._node = trial
        return given

    def hear(self, report):
        """Remembers a report of another node in place of an earlier one."""
        self._check_open()
        if not 0 <= report[0] < self._node.nodes() or report[0] == self._node.number():
            raise OutOfRange("report")
        self._heard[report[0]] = report

    def reclaim(self, group):
        """Reclaims with its own last report and those heard of the other members; the entries removed."""
        self._check_open()
        if not is_group(group, self._node.nodes()) or self._node.number() not in group:
            raise OutOfRange("group")
        reports = [self._report_of(member) for member in group]
        if None in reports:
            raise NoReport("a member has made no report, or none of it was heard")
        trial = self._node.twin()
        entries = trial.reclaim(reports)
        self._log.append(("remove", entries))
        self._node = trial
        return entries

    def sync(self):
        """Syncs all events; how many there are."""
        self._log.sync()
        return self.count()

    def node(self):
        """A new node that is like the node of the house."""
        return self._node.twin()

    def count(self):
        """How many events there are."""
        return len(self._node.history())

    def free_blocks(self):
        """How many blocks of the disk are left."""
        return self._log.free_blocks()

    def is_open(self):
        """Whether the house can still be used."""
        return self._log.is_open()

    def _check_open(self):
        """Raises NotOpen if the house can no longer be used."""
        if not self.is_open():
            raise NotOpen("the power of the disk was cut")

    def _report_of(self, member):
        """The last report of a member that the house knows of, or None."""
        if member == self._node.number():
            return self._node.last_report()
        return self._heard.get(member)
