"""Points 2, 4 to 11 and 13 over drawn events, against the words of the document; replay of histories."""

import copy
import random
import unittest

from keptbywitness.errors import KeepError, NoRoot, OutOfRange
from keptbywitness.nodes import Node, replay
from draws import Draw, draw_wrong_event
from models import Model, outcome, tell


class ModelTest(unittest.TestCase):
    """Nodes and models perform the same drawn events, many of which are wrong."""

    def test_drawn_events(self):
        chance = random.Random(6)
        results = {}
        for _ in range(60):
            draw = Draw(chance, chance.randint(2, 4))
            models = [Model(len(draw.nodes), number) for number in range(len(draw.nodes))]
            for _ in range(70):
                self.check_event(chance, draw, models, results)
        for wanted in (
            ("make", "gave", False), ("read", "gave", True), ("read", "gave", False), ("write", "gave", True),
            ("receive", "gave", True), ("receive", "gave", False), ("remove", "gave", True),
            ("make", "OutOfRange", "fields"), ("read", "NoRoot", None), ("read", "NotObject", None),
            ("read", "NoField", None), ("write", "NoRoot", None), ("write", "NotObject", None),
            ("write", "NoField", None), ("drop", "NoRoot", None), ("send", "OutOfRange", "to"),
            ("send", "OutOfRange", "roots"), ("send", "NoRoot", None), ("receive", "WrongMessage", None),
            ("receive", "NoEntry", None), ("remove", "NoEntry", None),
        ):
            self.assertGreater(results.get(wanted, 0), 4, wanted)

    def check_event(self, chance, draw, models, results):
        number = chance.randrange(len(draw.nodes))
        node, model = draw.nodes[number], models[number]
        messages = [draw.given[at] for at in draw.of_kind("send")]
        if chance.random() < 0.6:
            word = chance.choices(list(draw.weights), list(draw.weights.values()))[0]
            event = getattr(draw, "draw_" + word)(number) or ("report",)
            step = (number, event)
            if event[0] == "receive":
                event = ("receive", draw.given[event[1]])
        else:
            event, step = draw_wrong_event(chance, node, messages), None
        before = tell(node)
        result = outcome(node.perform, event)
        self.assertEqual(result, model.perform(event), event)
        self.assertEqual(tell(node), model.tell(), event)
        if result[0] == "raised" or event[0] == "receive" and result[1] is None:
            self.assertEqual(tell(node), before)
        elif step is not None:
            draw.steps.append(step)
            draw.given.append(result[1])
        told = (event[0], *(result[1:] if result[0] == "raised" else ("gave", result[1] is None)))
        results[told] = results.get(told, 0) + 1


class ReplayTest(unittest.TestCase):
    def test_every_beginning_of_a_history(self):
        chance = random.Random(7)
        for _ in range(12):
            draw = Draw(chance, chance.randint(2, 4), reclaim=3)
            told = [[tell(node)] for node in draw.nodes]
            for _ in range(70):
                draw.add(1)
                for node, rows in zip(draw.nodes, told):
                    # Exactly the events of the history change what a node tells.
                    if len(node.history()) > len(rows[-1]["history"]):
                        rows.append(tell(node))
                    self.assertEqual(rows[-1], tell(node))
            for node, rows in zip(draw.nodes, told):
                history = node.history()
                self.assertEqual([row["history"] for row in rows], [history[:many] for many in range(len(history) + 1)])
                for many, row in enumerate(rows):
                    self.assertEqual(tell(replay(node.nodes(), node.number(), history[:many])), row)

    def test_the_replayed_node_goes_on_as_the_node(self):
        chance = random.Random(8)
        for _ in range(30):
            draw = Draw(chance, 3, reclaim=2)
            draw.add(60)
            nodes = [replay(3, number, node.history()) for number, node in enumerate(draw.nodes)]
            at = len(draw.steps)
            draw.add(40)
            for (number, event), given in zip(draw.steps[at:], draw.given[at:]):
                if event[0] == "receive":
                    self.assertEqual(nodes[number].perform(("receive", draw.given[event[1]])), given)
                elif event[0] == "reclaim":
                    self.assertEqual(nodes[number].reclaim([draw.given[one] for one in event[1]]), given)
                else:
                    self.assertEqual(nodes[number].perform(event), given)
            self.assertEqual([tell(node) for node in nodes], [tell(node) for node in draw.nodes])

    def test_a_number_that_is_gone_is_not_given_by_the_replayed_node(self):
        node = Node(2, 0)
        for event in (("make", 0), ("send", 1, (0,)), ("drop", 0), ("receive", (1, 0, 1, 1, (), ())), ("collect",)):
            node.perform(event)
        self.assertEqual((node.heap(), node.roots(), node.exports()), ({}, [], []))
        again = replay(2, 0, node.history())
        self.assertEqual(again.perform(("make", 0)), 1)
        self.assertEqual(again.heap(), {1: ()})
        self.assertEqual(again.perform(("send", 1, (1,)))[5], (("export", 1),))

    def test_messages_that_are_not_accepted_are_passed_over(self):
        message = (1, 0, 3, 0, (), ())
        node = replay(2, 0, [("receive", message), ("receive", message), ("make", 1), ("receive", (1, 0, 2, 0, (), ()))])
        self.assertEqual(node.history(), [("receive", message), ("make", 1)])

    def test_the_first_error(self):
        history = [("make", 1), ("drop", 0), ("read", 0, 0), ("make", 5)]
        with self.assertRaises(NoRoot):
            replay(2, 0, history)
        with self.assertRaises(OutOfRange) as caught:
            replay(2, 0, history[:1] + history[3:])
        self.assertEqual(caught.exception.name, "fields")
        self.assertEqual(replay(2, 0, history[:2]).history(), history[:2])

    def test_bounds_of_the_node(self):
        for nodes, number, name in ((1, 0, "nodes"), (5, 0, "nodes"), (1, 7, "nodes"), (3, 3, "number"), (2, -1, "number")):
            with self.assertRaises(OutOfRange) as caught:
                replay(nodes, number, [("make", 9)])
            self.assertEqual(caught.exception.name, name)
            self.assertIsInstance(caught.exception, KeepError)


class NoSharingTest(unittest.TestCase):
    """Point 2: what the caller passed or received may be changed without effect."""

    def make_node(self):
        node = Node(3, 1)
        for event in (
            ("make", 2), ("make", 0), ("write", 0, 0, 1), ("receive", (2, 1, 1, 0, (), (("export", 4), ("export", 5)))),
            ("write", 0, 1, 2), ("send", 2, (2, 0)), ("send", 0, (3, 1)), ("report",),
        ):
            node.perform(event)
        return node

    def test_what_is_handed_out(self):
        node = self.make_node()
        before = copy.deepcopy(tell(node))
        for name in ("roots", "exports", "imports", "returned", "history", "kept"):
            answer = getattr(node, name)()
            self.assertIs(type(answer), list)
            self.assertGreater(len(answer), 0, name)
            answer.reverse()
            answer.append("changed")
            del answer[0]
            self.assertEqual(tell(node), before, name)
        heap = node.heap()
        heap[0] = (None,)
        heap[99] = ()
        del heap[1]
        self.assertEqual(tell(node), before)
        self.assertIsNot(node.history(), node.history())

    def test_kinds_of_values(self):
        node = self.make_node()
        self.assertEqual({type(fields) for fields in node.heap().values()}, {tuple})
        for name in ("sent", "seen", "report", "last_report"):
            self.assertIs(type(getattr(node, name)()), tuple, name)
        self.assertEqual({type(part) for part in node.report()[1:]}, {tuple})
        self.assertEqual({type(row[3]) for row in node.report()[4]}, {tuple})
        self.assertEqual({type(part) for part in node.perform(("send", 0, ()))[4:]}, {tuple})
        self.assertEqual({type(part) for part in node.perform(("collect",))}, {tuple})

    def test_the_history_that_is_handed_in(self):
        history = self.make_node().history()
        node = replay(3, 1, history)
        before = copy.deepcopy(tell(node))
        self.assertEqual(history, before["history"])
        history.append(("drop", 0))
        history[0] = ("make", 0)
        self.assertEqual(tell(node), before)

    def test_the_reports_that_are_handed_in(self):
        node = self.make_node()
        other = (0, (0, 0, 0), (0, 1, 0), (), (), ())
        reports = [other, node.last_report()]
        kept = list(reports)
        self.assertEqual(node.reclaim(reports), ((0, 0), (0, 1)))
        self.assertEqual(reports, kept)
        before = copy.deepcopy(tell(node))
        reports.clear()
        self.assertEqual(tell(node), before)


if __name__ == "__main__":
    unittest.main()
