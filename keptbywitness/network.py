"""A network: nodes that perform steps one after another, and the steps that they performed."""

from keptbywitness.errors import OutOfRange
from keptbywitness.executions import STEPS_MOST, check_step, perform_step
from keptbywitness.groups import is_group
from keptbywitness.nodes import Node, is_network_size


class Network:
    """Nodes that are new at first, and all steps that they have performed since."""

    def __init__(self, nodes):
        if not is_network_size(nodes):
            raise OutOfRange("nodes")
        self._nodes = [Node(nodes, number) for number in range(nodes)]
        # For each step the tuple (node, event, what it returned).
        self._done = []

    def perform(self, node, event):
        """Performs a step and returns what it gives; one that is refused changes nothing and is no step."""
        check_step(len(self._nodes), (node, event))
        self._check_room(1)
        given = perform_step(self._nodes, self._done, (node, event))
        self._done.append((node, event, given))
        return given

    def round(self):
        """Every node collects; then every one sends every other one a message, and these are received."""
        many = len(self._nodes)
        ways = [(sender, to) for sender in range(many) for to in range(many) if sender != to]
        self._check_room(many + 2 * len(ways))
        for number in range(many):
            self.perform(number, ("collect",))
        first = len(self._done)
        for sender, to in ways:
            self.perform(sender, ("send", to, ()))
        for at, (_, to) in enumerate(ways):
            self.perform(to, ("receive", first + at))

    def collect_jointly(self, group):
        """Every member reports; then every one reclaims with these reports; then every one collects."""
        if not is_group(group, len(self._nodes)):
            raise OutOfRange("group")
        self._check_room(3 * len(group))
        first = len(self._done)
        for member in group:
            self.perform(member, ("report",))
        reports = tuple(range(first, first + len(group)))
        for member in group:
            self.perform(member, ("reclaim", reports))
        for member in group:
            self.perform(member, ("collect",))

    def execution(self):
        """The execution of all steps."""
        return (len(self._nodes), tuple([(node, event) for node, event, _ in self._done]))

    def nodes(self):
        """The list of new nodes that are like those of the network."""
        return [node.twin() for node in self._nodes]

    def _check_room(self, many):
        """Raises OutOfRange if there is no room for so many further steps."""
        if len(self._done) + many > STEPS_MOST:
            raise OutOfRange("steps")
