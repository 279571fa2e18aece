"""Points 23 to 25: rounds and joint collections, their steps, and what they leave."""

import random
import unittest

from keptbywitness.errors import OutOfRange
from keptbywitness.executions import perform_all
from keptbywitness.groups import dangling, garbage, is_consistent, kept_by, live, reachable
from keptbywitness.network import Network
from cases import WitnessCase
from models import groups_of, tell
from networks import NetworkCase, NetworkDraw, network_of, tell_all

ROUND_STEPS = {2: 6, 3: 15, 4: 28}


class RoundStepsTest(NetworkCase):
    def test_the_steps_of_a_round(self):
        network = Network(2)
        network.perform(0, ("make", 0))
        self.assertIsNone(network.round())
        self.assertEqual(network.execution()[1][1:], (
            (0, ("collect",)), (1, ("collect",)), (0, ("send", 1, ())), (1, ("send", 0, ())),
            (1, ("receive", 3)), (0, ("receive", 4)),
        ))
        network = Network(3)
        network.round()
        self.assertEqual(network.execution()[1], (
            (0, ("collect",)), (1, ("collect",)), (2, ("collect",)),
            (0, ("send", 1, ())), (0, ("send", 2, ())), (1, ("send", 0, ())), (1, ("send", 2, ())),
            (2, ("send", 0, ())), (2, ("send", 1, ())),
            (1, ("receive", 3)), (2, ("receive", 4)), (0, ("receive", 5)), (2, ("receive", 6)),
            (0, ("receive", 7)), (1, ("receive", 8)),
        ))
        self.is_performed(network)

    def test_rounds_of_all_sizes(self):
        for nodes, many in ROUND_STEPS.items():
            network = Network(nodes)
            for times in (1, 2, 3):
                self.assertIsNone(network.round())
                self.assertEqual(len(network.execution()[1]), times * many)
                self.is_performed(network)
            ways = [(one, other) for one in range(nodes) for other in range(nodes) if one != other]
            steps = network.execution()[1][-many:]
            self.assertEqual(steps[:nodes], tuple((number, ("collect",)) for number in range(nodes)))
            self.assertEqual(steps[nodes:nodes + len(ways)], tuple((one, ("send", other, ())) for one, other in ways))
            first = 2 * many + nodes
            received = tuple((other, ("receive", first + at)) for at, (_, other) in enumerate(ways))
            self.assertEqual(steps[nodes + len(ways):], received)

    def test_the_steps_of_a_joint_collection(self):
        network = Network(4)
        network.perform(3, ("make", 0))
        self.assertIsNone(network.collect_jointly((0, 2, 3)))
        self.assertEqual(network.execution()[1][1:], (
            (0, ("report",)), (2, ("report",)), (3, ("report",)),
            (0, ("reclaim", (1, 2, 3))), (2, ("reclaim", (1, 2, 3))), (3, ("reclaim", (1, 2, 3))),
            (0, ("collect",)), (2, ("collect",)), (3, ("collect",)),
        ))
        network.collect_jointly((1,))
        self.assertEqual(network.execution()[1][10:], ((1, ("report",)), (1, ("reclaim", (10,))), (1, ("collect",))))
        self.is_performed(network)

    def test_joint_collections_of_all_groups(self):
        for nodes in (2, 3, 4):
            for group in groups_of(range(nodes)):
                network = Network(nodes)
                self.assertIsNone(network.collect_jointly(group))
                many = len(group)
                words = [(number, event[0]) for number, event in network.execution()[1]]
                self.assertEqual(words, [(one, word) for word in ("report", "reclaim", "collect") for one in group])
                events = [event for _, event in network.execution()[1][many:2 * many]]
                self.assertEqual(events, [("reclaim", tuple(range(many)))] * many)

    def test_what_is_no_group(self):
        for nodes in (2, 3, 4):
            network = Network(nodes)
            for group in ((), (-1,), (nodes,), (0, nodes), (-1, 0), (1, 0), (0, 0), (0, 1, 1), (1, 1)):
                self.refuses(network, OutOfRange, "group", network.collect_jointly, group)


class RoomTest(NetworkCase):
    def filled(self, nodes, left):
        """A network in which there is room for so many further steps."""
        network = Network(nodes)
        for _ in range(400 - left):
            network.perform(0, ("collect",))
        return network

    def test_rounds(self):
        for nodes, many in ROUND_STEPS.items():
            for left in (0, 1, many - 1):
                network = self.filled(nodes, left)
                self.refuses(network, OutOfRange, "steps", network.round)
            network = self.filled(nodes, many)
            self.assertIsNone(network.round())
            self.assertEqual(len(network.execution()[1]), 400)
            self.is_performed(network)
            self.refuses(network, OutOfRange, "steps", network.round)

    def test_joint_collections(self):
        for group in groups_of(range(4)):
            many = 3 * len(group)
            for left in (0, 1, many - 1):
                network = self.filled(4, left)
                self.refuses(network, OutOfRange, "steps", network.collect_jointly, group)
                self.refuses(network, OutOfRange, "group", network.collect_jointly, group + (4,))
                self.refuses(network, OutOfRange, "group", network.collect_jointly, ())
            network = self.filled(4, many)
            self.assertIsNone(network.collect_jointly(group))
            self.assertEqual(len(network.execution()[1]), 400)
            self.is_performed(network)


class DrawnRoundsTest(WitnessCase):
    """Over drawn networks, with messages lost, late and repeated, and reclaims among the steps."""

    def drawn(self, seed, networks):
        chance = random.Random(seed)
        for _ in range(networks):
            draw = NetworkDraw(chance, chance.randint(2, 4), reclaim=chance.choice((0, 2, 4)))
            for _ in range(4):
                if chance.random() < 0.5:
                    draw.add_ring(chance.choice((0, 0.3)))
                draw.add(chance.randint(10, 40))
                self.assertEqual(dangling(draw.nodes), [])
                yield chance, draw

    def copy_of(self, draw):
        return network_of(draw.network.execution())

    def test_after_a_round_no_message_from_before_is_accepted(self):
        waiting = 0
        for chance, draw in self.drawn(23, 40):
            messages = draw.messages()
            if chance.random() < 0.5:
                waiting += sum(message[2] > draw.nodes[message[1]].seen()[message[0]] for message in messages)
                before = reachable(draw.nodes)
                draw.round()
                self.assertEqual(reachable(draw.nodes), before)
                self.assertEqual(dangling(draw.nodes), [])
            else:
                continue
            for message in messages:
                node = draw.network.nodes()[message[1]]
                told = tell(node)
                self.assertIsNone(node.perform(("receive", message)))
                self.assertEqual(tell(node), told)
        self.assertGreater(waiting, 200)

    def test_a_joint_collection_leaves_what_the_group_kept(self):
        removed, strangers = 0, 0
        for chance, draw in self.drawn(24, 25):
            for group in groups_of(draw.nodes):
                network = self.copy_of(draw)
                before = network.nodes()
                kept = kept_by(before, group)
                network.collect_jointly(group)
                after = network.nodes()
                self.assertEqual(kept, [(member, key) for member in group for key in sorted(after[member].heap())])
                self.check_entries(before, after, group)
                self.assertEqual(reachable(after), reachable(before))
                self.assertEqual(dangling(after), [])
                for number in range(len(after)):
                    if number not in group:
                        self.assertEqual(tell(after[number]), tell(before[number]))
                        strangers += 1
                removed += sum(len(before[member].heap()) for member in group) - len(kept)
            if chance.random() < 0.5:
                draw.collect_jointly(chance.choice(list(groups_of(draw.nodes))))
        self.assertGreater(removed, 300)
        self.assertGreater(strangers, 300)

    def check_entries(self, before, after, group):
        """Exactly the garbage entries of the members are gone."""
        reports = [before[member].report() for member in group]
        self.assertTrue(is_consistent(reports))
        left = [(member, *row[:2]) for member in group for row in after[member].exports()]
        self.assertEqual(left, live(reports))
        there = [(member, *row[:2]) for member in group for row in before[member].exports()]
        self.assertEqual(sorted(set(there) - set(left)), garbage(reports))

    def test_a_round_and_a_joint_collection_of_all_leave_what_is_reachable(self):
        rings = 0
        for chance, draw in self.drawn(25, 40):
            network = self.copy_of(draw)
            everyone = tuple(range(len(draw.nodes)))
            found = reachable(draw.nodes)
            network.round()
            rings += self.rings(network, everyone)
            network.collect_jointly(everyone)
            nodes = network.nodes()
            self.assertEqual([(at, key) for at, node in enumerate(nodes) for key in sorted(node.heap())], found)
            self.assertEqual(reachable(nodes), found)
            self.assertEqual(dangling(nodes), [])
            self.assertEqual([tell(node) for node in perform_all(network.execution())], tell_all(network)[1])
            if chance.random() < 0.3:
                draw.round()
                draw.collect_jointly(everyone)
        self.assertGreater(rings, 10)

    def rings(self, network, everyone):
        """How many objects go only because all nodes collect jointly, and no rounds would make them go."""
        again = network_of(network.execution())
        room = 400 - len(again.execution()[1])
        for _ in range(min(4, room // ROUND_STEPS[len(everyone)])):
            again.round()
        nodes = again.nodes()
        return sum(len(node.heap()) for node in nodes) - len(reachable(nodes))

    def test_what_a_group_keeps_has_a_witness(self):
        chance = random.Random(20)
        found = []
        for _ in range(12):
            draw = NetworkDraw(chance, chance.randint(2, 4))
            draw.add(15)
            draw.add_ring(0.3)
            draw.round()
            draw.add(15)
            nodes, execution = draw.network.nodes(), draw.network.execution()
            for group in groups_of(nodes):
                kept = kept_by(nodes, group)
                found += [one not in (None, execution) for one in self.witnesses(execution, nodes, group, kept)]
                if len(group) == 1:
                    self.assertEqual(kept, [(group[0], key) for key in nodes[group[0]].kept()])
        self.assertGreater(sum(found), 50)

    def test_dangling_is_empty_throughout(self):
        chance = random.Random(26)
        for _ in range(15):
            draw = NetworkDraw(chance, chance.randint(2, 4), reclaim=4)
            for _ in range(12):
                if chance.random() < 0.2:
                    draw.add_ring(0.2)
                if chance.random() < 0.2:
                    draw.round()
                if chance.random() < 0.2:
                    draw.collect_jointly(chance.choice(list(groups_of(draw.nodes))))
                for _ in range(5):
                    draw.add(1)
                    self.assertEqual(dangling(draw.nodes), [])
            steps = draw.network.execution()[1]
            for many in range(len(steps) + 1):
                self.assertEqual(dangling(perform_all((len(draw.nodes), steps[:many]))), [])


class RingTest(unittest.TestCase):
    def ring(self, nodes, rooted=()):
        """A network in which each node has an object whose field has that of the next one; messages lost, too."""
        network = Network(nodes)
        for number in range(nodes):
            network.perform(number, ("make", 1))
        for number in range(nodes):
            following = (number + 1) % nodes
            for _ in range(3):
                sent = len(network.execution()[1])
                network.perform(following, ("send", number, (0,)))
            network.perform(number, ("receive", sent - 1))
            network.perform(number, ("write", 0, 0, 1))
        for number in range(nodes):
            network.perform(number, ("drop", 1))
            if number not in rooted:
                network.perform(number, ("drop", 0))
        return network

    def test_rings_go_by_a_round_and_a_joint_collection_of_all(self):
        for nodes in (2, 3, 4):
            network = self.ring(nodes)
            self.assertEqual(reachable(network.nodes()), [])
            # What the lost messages carried could still come.
            network.collect_jointly(tuple(range(nodes)))
            self.assertEqual([len(node.heap()) for node in network.nodes()], [1] * nodes)
            network.round()
            network.round()
            network.collect_jointly(tuple(range(nodes - 1)))
            self.assertEqual([len(node.heap()) for node in network.nodes()], [1] * nodes)
            network.collect_jointly(tuple(range(nodes)))
            for node in network.nodes():
                self.assertEqual((node.heap(), node.exports(), node.imports()), ({}, [], []))

    def test_a_root_keeps_the_ring(self):
        for nodes in (2, 3, 4):
            for rooted in range(nodes):
                network = self.ring(nodes, (rooted,))
                network.round()
                network.collect_jointly(tuple(range(nodes)))
                self.assertEqual(reachable(network.nodes()), [(number, 0) for number in range(nodes)])
                self.assertEqual([list(node.heap()) for node in network.nodes()], [[0]] * nodes)


if __name__ == "__main__":
    unittest.main()
