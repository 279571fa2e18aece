"""Short ways to bring nodes somewhere, and to see that they refuse an event."""

import unittest

from keptbywitness.errors import KeepError
from keptbywitness.nodes import Node
from models import tell


def after(events, nodes=3, number=0):
    """A new node that has performed the events."""
    node = Node(nodes, number)
    for event in events:
        node.perform(event)
    return node


def message_to(node, sender, number, carried=(), seen=0, held=()):
    """The event in which a node receives this message."""
    return ("receive", (sender, node, number, seen, tuple(held), tuple(carried)))


class RefusalsCase(unittest.TestCase):
    def refuses(self, node, event, error, name=None):
        """The event raises exactly this error, and changes nothing."""
        self.refuses_call(node, error, name, node.perform, event)

    def refuses_call(self, node, error, name, call, *arguments):
        """The call raises exactly this error, and changes nothing of the node."""
        before = tell(node)
        with self.assertRaises(KeepError, msg=arguments) as caught:
            call(*arguments)
        self.assertIs(type(caught.exception), error, arguments)
        self.assertEqual(getattr(caught.exception, "name", None), name, arguments)
        self.assertEqual(tell(node), before, arguments)
