"""Points 2 and 18: the steps of a network, what they give, and which ones are refused."""

import copy
import random
import unittest

from keptbywitness.errors import Inconsistent, NoLetter, NoReport, NoRoot, OutOfRange
from keptbywitness.network import Network
from keptbywitness.nodes import Node
from draws import draw_wrong_event
from models import outcome, tell
from networks import ModelNetwork, NetworkCase, NetworkDraw, network_of, tell_all
from standins import imp, obj

MAKE = ("make", 1)


class StepsTest(NetworkCase):
    def test_a_new_network(self):
        for nodes in (2, 3, 4):
            network = Network(nodes)
            self.assertEqual(network.execution(), (nodes, ()))
            self.assertEqual([tell(node) for node in network.nodes()], [tell(Node(nodes, at)) for at in range(nodes)])

    def test_numbers_of_nodes(self):
        for nodes in (-1, 0, 1, 5, 6):
            with self.assertRaises(OutOfRange) as caught:
                Network(nodes)
            self.assertEqual(caught.exception.name, "nodes")

    def test_every_kind_of_step(self):
        network = Network(2)
        report = (0, (0, 2), (0, 0), (), ((1, 0, 2, ()),), ())
        other = (1, (0, 0), (2, 0), ((0, 0),), (), ())
        steps = [
            ((0, ("make", 2)), 0), ((0, ("make", 0)), 1), ((0, ("write", 0, 1, 1)), None), ((0, ("read", 0, 1)), 2),
            ((0, ("read", 0, 0)), None), ((0, ("drop", 1)), None), ((0, ("write", 0, 1, None)), None),
            ((0, ("send", 1, (2, 2))), (0, 1, 1, 0, (), (("export", 0), ("export", 0)))),
            ((0, ("send", 1, (2,))), (0, 1, 2, 0, (), (("export", 0),))),
            ((1, ("receive", 8)), (0,)), ((1, ("receive", 7)), None), ((1, ("receive", 8)), None),
            ((0, ("drop", 0)), None), ((0, ("drop", 2)), None), ((0, ("collect",)), ((0,), ())),
            ((0, ("report",)), report), ((1, ("report",)), other), ((0, ("reclaim", (15, 16))), ()),
            ((1, ("drop", 0)), None), ((1, ("report",)), (*other[:3], (), *other[4:])),
            ((0, ("reclaim", (15, 19))), ((1, 0),)), ((0, ("collect",)), ((1,), ())),
            ((1, ("collect",)), ((), ((0, 0),))),
        ]
        for at, ((number, event), given) in enumerate(steps):
            self.assertEqual(network.perform(number, event), given, event)
            self.assertEqual(network.execution(), (2, tuple(step for step, _ in steps[:at + 1])))
            self.is_performed(network)
        self.assertEqual(network.nodes()[0].history()[-2:], [("remove", ((1, 0),)), ("collect",)])
        self.assertEqual([node.heap() for node in network.nodes()], [{}, {}])

    def test_a_message_that_is_not_accepted_is_a_step_but_no_event(self):
        network = Network(2)
        network.perform(0, MAKE)
        network.perform(0, ("send", 1, (0,)))
        network.perform(0, ("send", 1, ()))
        network.perform(1, ("receive", 2))
        before = [tell(node) for node in network.nodes()]
        for at in (1, 2, 1):
            self.assertIsNone(network.perform(1, ("receive", at)))
            self.assertEqual([tell(node) for node in network.nodes()], before)
        self.assertEqual(network.execution()[1][-3:], ((1, ("receive", 1)), (1, ("receive", 2)), (1, ("receive", 1))))
        self.assertEqual([event[0] for event in network.nodes()[1].history()], ["receive"])
        self.is_performed(network)

    def test_networks_do_not_share_anything(self):
        networks = [Network(2), Network(2)]
        networks[0].perform(0, MAKE)
        self.assertEqual(tell_all(networks[1]), tell_all(Network(2)))

    def test_what_the_caller_does_to_what_was_returned(self):
        draw = NetworkDraw(random.Random(2), 3, reclaim=3)
        draw.add(120)
        network = draw.network
        before = copy.deepcopy(tell_all(network))
        nodes = network.nodes()
        self.assertEqual([node.number() for node in nodes], [0, 1, 2])
        for node in nodes:
            node.perform(("make", 4))
            node.perform(("send", (node.number() + 1) % 3, tuple(root for root, _ in node.roots()[:4])))
            for root, _ in node.roots():
                node.perform(("drop", root))
            node.perform(("report",))
            node.reclaim([node.last_report()])
            node.perform(("remove", tuple(row[:2] for row in node.exports())))
            node.perform(("collect",))
            node.heap()[0] = ()
            node.history().append(MAKE)
        nodes.clear()
        self.assertEqual(tell_all(network), before)
        self.assertEqual(len(network.nodes()), 3)
        nodes = network.nodes()
        for number, node in enumerate(network.nodes()):
            message = node.perform(("send", (number + 1) % 3, ()))
            nodes[(number + 1) % 3].perform(("receive", message))
            nodes[number].perform(("write", nodes[number].perform(MAKE), 0, None))
        self.assertEqual(tell_all(network), before)
        self.is_performed(network)

    def test_nodes_go_on_as_those_of_the_network(self):
        chance = random.Random(3)
        for _ in range(20):
            draw = NetworkDraw(chance, chance.randint(2, 4), reclaim=3)
            draw.add(60)
            at, nodes = len(draw.steps), draw.network.nodes()
            draw.add(30)
            for (number, event), given in zip(draw.steps[at:], draw.given[at:]):
                if event[0] == "receive":
                    self.assertEqual(nodes[number].perform(("receive", draw.given[event[1]])), given)
                elif event[0] == "reclaim":
                    self.assertEqual(nodes[number].reclaim([draw.given[one] for one in event[1]]), given)
                else:
                    self.assertEqual(nodes[number].perform(event), given)
            self.assertEqual([tell(node) for node in nodes], tell_all(draw.network)[1])


class RefusalsTest(NetworkCase):
    def refused(self, network, number, event, error, name=None):
        self.refuses(network, error, name, network.perform, number, event)

    def test_nodes_that_are_not_there(self):
        for nodes in (2, 3, 4):
            network = Network(nodes)
            for number in (-1, nodes, nodes + 1, -nodes):
                for event in (MAKE, ("remove", ()), ("receive", 0), ("reclaim", (0,)), ("drop", 0)):
                    self.refused(network, number, event, OutOfRange, "node")

    def test_remove_is_no_step(self):
        network = network_of((2, ((0, MAKE), (0, ("send", 1, (0,))))))
        for entries in (((1, 0),), (), ((1, 1),), ((0, 0), (1, 0))):
            self.refused(network, 0, ("remove", entries), OutOfRange, "event")
            self.refused(network, 1, ("remove", entries), OutOfRange, "event")

    def test_a_full_network(self):
        network = Network(2)
        network.perform(0, MAKE)
        network.perform(0, ("send", 1, (0,)))
        for _ in range(397):
            network.perform(1, ("collect",))
        self.assertEqual(network.perform(0, ("report",))[0], 0)
        self.assertEqual(len(network.execution()[1]), 400)
        self.is_performed(network)
        for event in (
            MAKE, ("make", 9), ("drop", 0), ("drop", 9), ("receive", 1), ("receive", 0), ("receive", 900),
            ("reclaim", (399,)), ("reclaim", (0,)), ("collect",), ("report",), ("send", 0, ()),
        ):
            for number in (0, 1):
                self.refused(network, number, event, OutOfRange, "steps")
            self.refused(network, 2, event, OutOfRange, "node")
        self.refused(network, 1, ("remove", ()), OutOfRange, "event")
        self.refuses(network, OutOfRange, "steps", network.round)
        self.refuses(network, OutOfRange, "steps", network.collect_jointly, (0,))
        self.refuses(network, OutOfRange, "group", network.collect_jointly, (2,))

    def test_no_such_message(self):
        network = network_of((3, (
            (0, MAKE), (0, ("send", 1, (0,))), (0, ("report",)), (1, ("receive", 1)), (1, ("send", 0, (0,))),
        )))
        for at in (-1, -2, -4, 0, 2, 3, 4, 5, 99):
            self.refused(network, 1, ("receive", at), NoLetter)
        for number in (0, 2):
            self.refused(network, number, ("receive", 1), NoLetter)
        self.assertEqual(network.perform(0, ("receive", 4)), (1,))

    def test_no_such_reports(self):
        network = network_of((3, (
            (0, MAKE), (0, ("send", 1, (0,))), (0, ("report",)), (1, ("receive", 1)), (1, ("report",)),
            (2, ("report",)), (0, ("send", 2, ())), (0, ("report",)), (1, ("report",)), (2, ("receive", 6)),
            (2, ("report",)),
        )))
        for indexes in ((0,), (1,), (3,), (6,), (9,), (-1,), (-4,), (11,), (7, 9), (7, 99), (7, 3), (7, -1)):
            self.refused(network, 0, ("reclaim", indexes), NoReport)
        for indexes in ((8, 7), (7, 7), (2, 7), (7, 8, 4), (7, 5, 8), (10, 5), (7, 10, 5)):
            self.refused(network, 0, ("reclaim", indexes), NoReport)
        # Not the node's last one, or none of its own.
        for indexes in ((), (2,), (2, 4), (2, 4, 5), (8,), (4, 5), (8, 10)):
            self.refused(network, 0, ("reclaim", indexes), NoReport)
        # 2 has seen a message that 0 had not sent when it made its first report; this comes ahead of whose it is.
        for number in (0, 1, 2):
            self.refused(network, number, ("reclaim", (2, 4, 10)), Inconsistent)
            self.refused(network, number, ("reclaim", (2, 10)), Inconsistent)
            # And that there is no such step comes ahead of this.
            self.refused(network, number, ("reclaim", (2, 10, 11)), NoReport)
            self.refused(network, number, ("reclaim", (10, 2)), NoReport)
        for indexes in ((7,), (7, 4), (7, 8), (7, 4, 5), (7, 5), (7, 8, 10)):
            self.assertEqual(network.perform(0, ("reclaim", indexes)), ())

    def test_what_the_node_refuses(self):
        network = network_of((3, ((0, MAKE), (0, ("make", 0)), (0, ("drop", 1)), (0, ("send", 1, (0,))), (1, ("receive", 3)))))
        for number, event, error, name in (
            (0, ("make", 5), "OutOfRange", "fields"), (0, ("make", -1), "OutOfRange", "fields"),
            (0, ("read", 1, 0), "NoRoot", None), (0, ("read", 0, 1), "NoField", None),
            (1, ("read", 0, 0), "NotObject", None), (1, ("write", 0, 0, 5), "NotObject", None),
            (0, ("write", 0, 1, 7), "NoField", None), (0, ("write", 0, 0, 1), "NoRoot", None),
            (0, ("drop", 1), "NoRoot", None), (2, ("drop", 0), "NoRoot", None),
            (0, ("send", 0, (9,)), "OutOfRange", "to"), (0, ("send", 3, (0,) * 5), "OutOfRange", "to"),
            (0, ("send", 1, (9,) * 5), "OutOfRange", "roots"), (0, ("send", 1, (0, 1)), "NoRoot", None),
        ):
            before = tell_all(network)
            self.assertEqual(outcome(network.perform, number, event), ("raised", error, name), event)
            self.assertEqual(tell_all(network), before)

    def test_a_refused_step_takes_no_index(self):
        network = Network(2)
        with self.assertRaises(NoRoot):
            network.perform(0, ("drop", 0))
        network.perform(0, MAKE)
        with self.assertRaises(NoLetter):
            network.perform(1, ("receive", 0))
        network.perform(0, ("send", 1, (0,)))
        self.assertEqual(network.perform(1, ("receive", 1)), (0,))
        self.assertEqual(network.nodes()[1].roots(), [(0, imp(0, 0))])
        self.assertEqual(network.nodes()[0].exports(), [(1, 0, obj(0), 1)])


class DrawnTest(NetworkCase):
    """Drawn steps, many of which are wrong, by a network and by the words of the document."""

    def test_drawn_steps(self):
        chance = random.Random(18)
        results = {}
        for _ in range(100):
            draw = NetworkDraw(chance, chance.randint(2, 4), reclaim=3)
            model = ModelNetwork(len(draw.nodes))
            for _ in range(80):
                self.check_step(chance, draw, model, results)
            self.is_performed(draw.network)
        for wanted in (
            ("receive", "gave", False), ("receive", "gave", True), ("receive", "NoLetter", None),
            ("reclaim", "gave", False), ("reclaim", "NoReport", None), ("reclaim", "Inconsistent", None),
            ("remove", "OutOfRange", "event"), ("make", "OutOfRange", "node"), ("make", "OutOfRange", "fields"),
            ("send", "OutOfRange", "to"), ("send", "OutOfRange", "roots"), ("write", "NoField", None),
            ("drop", "NoRoot", None), ("read", "NotObject", None),
        ):
            self.assertGreater(results.get(wanted, 0), 4, wanted)

    def check_step(self, chance, draw, model, results):
        network, number = draw.network, chance.randrange(len(draw.nodes))
        step = self.draw_step(chance, draw, number)
        before = tell_all(network)
        result = draw.perform(*step)
        self.assertEqual(result, model.perform(*step), step)
        self.assertEqual(tell_all(network), model.tell_all(), step)
        if result[0] == "raised":
            self.assertEqual(tell_all(network), before)
        else:
            draw.steps.append(step)
            draw.given.append(result[1])
        told = (step[1][0], *(result[1:] if result[0] == "raised" else ("gave", result[1] is None)))
        results[told] = results.get(told, 0) + 1

    def draw_step(self, chance, draw, number):
        """A step that is possible more often than not."""
        if chance.random() < 0.6:
            word = chance.choices(list(draw.weights), list(draw.weights.values()))[0]
            return (number, getattr(draw, "draw_" + word)(number) or ("report",))
        number = chance.choice((number,) * 5 + (-1, len(draw.nodes)))
        many = len(draw.steps)
        indexes = tuple(chance.sample(range(-2, many + 2), chance.randint(0, 2)))
        reports = tuple(chance.sample(draw.of_kind("report"), min(2, len(draw.of_kind("report")))))
        wrong = draw_wrong_event(chance, draw.nodes[0], [])
        if wrong[0] == "receive":
            wrong = ("receive", chance.randint(-2, many + 1))
        return (number, chance.choice((wrong, wrong, wrong, ("reclaim", indexes), ("reclaim", reports))))


if __name__ == "__main__":
    unittest.main()
