"""Short ways to bring nodes somewhere, to see that calls are refused, and to look for witnesses."""

import unittest

from keptbywitness.errors import KeepError
from keptbywitness.nodes import Node
from keptbywitness.witnesses import check_witness, find_witness
from models import tell


def after(events, nodes=3, number=0):
    """A new node that has performed the events."""
    node = Node(nodes, number)
    for event in events:
        node.perform(event)
    return node


def message_to(node, sender, number, carried=(), seen=0, held=()):
    """The event in which a node receives this message."""
    return ("receive", (sender, node, number, seen, tuple(held), tuple(carried)))


class UnchangedCase(unittest.TestCase):
    def raises_unchanged(self, told, error, name, call, *arguments):
        """The call raises exactly this error, and changes nothing of what told gives."""
        before = told()
        with self.assertRaises(KeepError, msg=arguments) as caught:
            call(*arguments)
        self.assertIs(type(caught.exception), error, arguments)
        self.assertEqual(getattr(caught.exception, "name", None), name, arguments)
        self.assertEqual(told(), before, arguments)


class WitnessCase(unittest.TestCase):
    def witnesses(self, execution, nodes, group, kept):
        """What is found for each object of a member: a witness exactly if it is among those kept."""
        found = []
        for owner, key in [(member, key) for member in group for key in nodes[member].heap()]:
            witness = find_witness(execution, group, owner, key)
            self.assertEqual(witness is not None, (owner, key) in kept)
            if witness is not None:
                self.assertIsNone(check_witness(execution, group, owner, key, witness))
            found.append(witness)
        return found


class RefusalsCase(UnchangedCase):
    def refuses(self, node, event, error, name=None):
        """The event raises exactly this error, and changes nothing."""
        self.refuses_call(node, error, name, node.perform, event)

    def refuses_call(self, node, error, name, call, *arguments):
        """The call raises exactly this error, and changes nothing of the node."""
        self.raises_unchanged(lambda: tell(node), error, name, call, *arguments)
