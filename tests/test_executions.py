"""Point 18: executions, the steps that are possible and those that are not."""

import random
import unittest

from keptbywitness import executions
from keptbywitness.errors import Impossible, KeepError, OutOfRange
from keptbywitness.executions import first_fault, perform_all, reclaims
from keptbywitness.nodes import Node, replay
from draws import Draw
from models import tell
from standins import imp, obj

MAKE = (0, ("make", 1))


def of_steps(*steps, nodes=3):
    return (nodes, steps)


class StepsTest(unittest.TestCase):
    def faulty(self, before, step, nodes=3):
        """The step is not possible behind those before, which are."""
        self.assertIsNone(first_fault((nodes, tuple(before))))
        # What stands behind the first fault does not matter.
        for behind in ((), (MAKE,), (step, (0, ("drop", 77)))):
            execution = (nodes, (*before, step, *behind))
            self.assertEqual(first_fault(execution), len(before), step)
            with self.assertRaises(Impossible) as caught:
                perform_all(execution)
            self.assertEqual(caught.exception.step, len(before), step)
            self.assertIsInstance(caught.exception, KeepError)

    def test_limit(self):
        self.assertEqual(executions.STEPS_MOST, 400)

    def test_no_steps(self):
        for nodes in (2, 3, 4):
            self.assertIsNone(first_fault((nodes, ())))
            self.assertEqual([tell(node) for node in perform_all((nodes, ()))], [tell(Node(nodes, at)) for at in range(nodes)])

    def test_messages_by_index(self):
        execution = of_steps(
            MAKE, (0, ("send", 1, (0,))), (0, ("send", 2, (0, 0))), (2, ("receive", 2)), (1, ("receive", 1)),
            (1, ("write", 0, 0, 0)),
        )
        self.assertEqual(first_fault(execution), 5)
        nodes = perform_all((3, execution[1][:5]))
        self.assertIs(type(nodes), list)
        self.assertEqual([node.number() for node in nodes], [0, 1, 2])
        self.assertEqual(nodes[1].roots(), [(0, imp(0, 0))])
        self.assertEqual(nodes[2].roots(), [(0, imp(0, 0)), (1, imp(0, 0))])
        self.assertEqual(nodes[0].exports(), [(1, 0, obj(0), 1), (2, 0, obj(0), 1)])
        self.assertEqual(nodes[2].history(), [("receive", (0, 2, 1, 0, (), (("export", 0), ("export", 0))))])

    def test_late_repeated_and_lost_messages(self):
        sends = [(0, ("send", 1, ()))] * 4
        execution = of_steps(*sends, *((1, ("receive", at)) for at in (1, 0, 1, 3, 2)))
        self.assertIsNone(first_fault(execution))
        node = perform_all(execution)[1]
        self.assertEqual(node.seen(), (4, 0, 0))
        self.assertEqual([event[1][2] for event in node.history()], [2, 4])

    def test_node_that_is_not_there(self):
        for nodes in (2, 3, 4):
            for number in (-1, nodes, nodes + 1):
                self.faulty((), (number, ("make", 0)), nodes)
                self.faulty((MAKE,), (number, ("collect",)), nodes)

    def test_events_that_the_node_refuses(self):
        before = (MAKE, (0, ("make", 0)), (0, ("drop", 1)), (0, ("send", 1, (0,))), (1, ("receive", 3)))
        for step in (
            (0, ("make", 5)), (0, ("make", -1)), (0, ("read", 1, 0)), (0, ("read", 0, 1)), (1, ("read", 0, 0)),
            (0, ("write", 0, 1, None)), (0, ("write", 0, 0, 1)), (1, ("write", 0, 0, None)), (0, ("drop", 1)),
            (2, ("drop", 0)), (0, ("send", 0, ())), (0, ("send", 3, ())), (0, ("send", 1, (0,) * 5)), (0, ("send", 1, (1,))),
        ):
            self.faulty(before, step)

    def test_words_of_no_event(self):
        self.faulty((MAKE,), (0, ("jump",)))
        self.faulty((MAKE,), (0, ("make", 0, 0)))

    def test_remove_is_no_step(self):
        before = (MAKE, (0, ("send", 1, (0,))))
        for entries in (((1, 0),), (), ((1, 1),)):
            self.faulty(before, (0, ("remove", entries)))

    def test_receive_of_what_is_no_message_to_the_node(self):
        before = (MAKE, (0, ("send", 1, (0,))), (0, ("report",)), (1, ("receive", 1)), (1, ("collect",)))
        for at in (-1, -4, 0, 2, 3, 4, 5, 6, 99):
            self.faulty(before, (1, ("receive", at)))
        for number in (0, 2):
            self.faulty(before, (number, ("receive", 1)))
        for at in (-1, -2):
            self.faulty(before[:1 - at], (1, ("receive", at)))
        self.assertIsNone(first_fault((3, (*before, (1, ("receive", 1))))))

    def test_a_message_that_is_not_accepted_is_a_step(self):
        steps = (MAKE, (0, ("send", 1, (0,))), (1, ("receive", 1)), (1, ("receive", 1)), (1, ("make", 0)))
        self.assertIsNone(first_fault((2, steps)))
        node = perform_all((2, steps))[1]
        self.assertEqual([event[0] for event in node.history()], ["receive", "make"])
        self.assertEqual(node.roots(), [(0, imp(0, 0)), (1, obj(0))])

    def test_reclaim(self):
        steps = [
            MAKE, (0, ("send", 1, (0,))), (1, ("receive", 1)), (1, ("drop", 0)), (0, ("report",)), (1, ("report",)),
            (0, ("reclaim", (4, 5))), (1, ("reclaim", (4, 5))), (2, ("report",)), (2, ("reclaim", (8,))),
        ]
        self.assertIsNone(first_fault((3, tuple(steps))))
        nodes = perform_all((3, tuple(steps)))
        self.assertEqual(nodes[0].exports(), [])
        self.assertEqual([node.history()[-1] for node in nodes], [("remove", ((1, 0),)), ("remove", ()), ("remove", ())])

    def test_reclaim_with_what_are_no_such_reports(self):
        before = [
            MAKE, (0, ("send", 1, (0,))), (0, ("report",)), (1, ("receive", 1)), (1, ("report",)), (2, ("report",)),
            (0, ("send", 2, ())), (0, ("report",)), (1, ("report",)),
        ]
        for indexes in ((), (0,), (1,), (3,), (6,), (-1,), (-2, 8), (9,), (10,), (7, 9), (7, 99), (7, 3)):
            self.faulty(before, (0, ("reclaim", indexes)))
        # Not rising by their nodes, not the last one of its own, and none of its own.
        for indexes in ((8, 7), (7, 7), (2, 7), (7, 8, 4), (7, 5, 8), (2, 8), (2,), (8,), (4, 5)):
            self.faulty(before, (0, ("reclaim", indexes)))
        # Indexes do not count from the end.
        self.faulty(before[:8], (0, ("reclaim", (-1,))))
        self.faulty(before, (0, ("reclaim", (-2,))))
        for indexes in ((7,), (7, 4), (7, 8), (7, 4, 5), (7, 5)):
            self.assertIsNone(first_fault((3, (*before, (0, ("reclaim", indexes))))), indexes)

    def test_reclaim_with_reports_that_are_not_consistent(self):
        before = [(0, ("report",)), (0, ("send", 1, ())), (1, ("receive", 1)), (1, ("report",))]
        self.faulty(before, (1, ("reclaim", (0, 3))))
        self.faulty(before, (0, ("reclaim", (0, 3))))
        self.assertIsNone(first_fault((3, (*before, (0, ("report",)), (0, ("reclaim", (4, 3)))))))


class BoundsTest(unittest.TestCase):
    def raises(self, execution, name):
        with self.assertRaises(OutOfRange) as caught:
            perform_all(execution)
        self.assertEqual(caught.exception.name, name)

    def test_numbers_of_nodes(self):
        for nodes in (-1, 0, 1, 5, 9):
            self.raises((nodes, ()), "nodes")
            self.raises((nodes, (MAKE,)), "nodes")
            self.raises((nodes, ((7, ("make", 9)),)), "nodes")
            self.raises((nodes, (MAKE,) * 401), "nodes")

    def test_numbers_of_steps(self):
        self.assertEqual(len(perform_all((2, (MAKE,) * 399))[0].heap()), 399)
        self.assertEqual(len(perform_all((2, (MAKE,) * 400))[0].heap()), 400)
        self.raises((2, (MAKE,) * 401), "steps")
        self.raises((2, (MAKE,) * 1000), "steps")
        self.raises((2, ((9, ("drop", 3)), *(MAKE,) * 400)), "steps")

    def test_faults_of_long_executions(self):
        self.assertIsNone(first_fault((2, (MAKE,) * 400)))
        self.assertIsNone(first_fault((2, (MAKE,) * 401)))
        self.assertEqual(first_fault((2, (MAKE,) * 430 + ((0, ("drop", 430)),))), 430)
        with self.assertRaises(Impossible) as caught:
            perform_all((2, (MAKE,) * 399 + ((0, ("drop", 400)),)))
        self.assertEqual(caught.exception.step, 399)

    def test_no_step_is_possible_where_no_node_can_be(self):
        for nodes in (1, 5):
            self.assertIsNone(first_fault((nodes, ())))
            self.assertEqual(first_fault((nodes, (MAKE,))), 0)


class ReclaimsTest(unittest.TestCase):
    def test_reclaims(self):
        self.assertIs(reclaims((2, ())), False)
        self.assertIs(reclaims((2, (MAKE, (0, ("report",)), (0, ("collect",))))), False)
        self.assertIs(reclaims((2, (MAKE, (0, ("report",)), (0, ("reclaim", (1,))), MAKE))), True)
        self.assertIs(reclaims((2, ((0, ("reclaim", ())),))), True)
        self.assertIs(reclaims((2, ((0, ("remove", ())),))), False)


class DrawnExecutionsTest(unittest.TestCase):
    def test_nodes_are_those_that_performed_the_steps(self):
        chance = random.Random(18)
        for _ in range(40):
            draw = Draw(chance, chance.randint(2, 4), reclaim=chance.choice((0, 3)))
            execution = draw.add(chance.randint(0, 100))
            self.assertIsNone(first_fault(execution))
            self.assertEqual(reclaims(execution), bool(draw.of_kind("reclaim")))
            nodes = perform_all(execution)
            self.assertEqual([tell(node) for node in nodes], [tell(node) for node in draw.nodes])
            for node in nodes:
                self.assertEqual(tell(replay(node.nodes(), node.number(), node.history())), tell(node))
            # The nodes are new each time.
            nodes[0].perform(("make", 0))
            self.assertEqual([tell(node) for node in perform_all(execution)], [tell(node) for node in draw.nodes])


if __name__ == "__main__":
    unittest.main()
