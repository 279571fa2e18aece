"""Points 20, 24, 25, 33 and 36 over drawn courses of links: whatever is lost, late or repeated, and wherever it is cut."""

import random
import unittest

from keptbywitness.executions import perform_all
from keptbywitness.groups import dangling, kept_by, reachable
from keptbywitness.nodes import Node
from cases import WitnessCase
from links import LinkDraw
from models import groups_of, reached, tell


def possible_execution(nodes):
    """An execution after which each node has the history of one of these, or None; remove is a step of it here."""
    again = [Node(len(nodes), number) for number in range(len(nodes))]
    left = [node.history() for node in nodes]
    steps, sent = [], {}
    moved = True
    while moved:
        moved = False
        for number, node in enumerate(again):
            while left[number] and (left[number][0][0] != "receive" or left[number][0][1] in sent):
                event = left[number].pop(0)
                given = node.perform(event)
                if event[0] == "send":
                    sent[given] = len(steps)
                steps.append((number, ("receive", sent[event[1]]) if event[0] == "receive" else event))
                moved = True
    return None if any(left) else (len(nodes), tuple(steps))


class CourseCase(unittest.TestCase):
    def run_course(self, draw, many):
        for _ in range(many):
            before = [node.history() for node in draw.nodes]
            was_open = [draw.link.is_open(number) for number in draw.everyone()]
            word, number, result = draw.act()
            for other, node in enumerate(draw.nodes):
                if word == "open" and other == number and result is not None:
                    self.check_opening(draw, other, before[other], result)
                else:
                    self.check_history(node.history(), before[other], was_open[other])
            if draw.all_open():
                self.check_references(draw)

    def check_history(self, history, before, was_open):
        """At most one event came, and none to a house that is not open."""
        self.assertEqual(history[:len(before)], before)
        self.assertLessEqual(len(history), len(before) + was_open)

    def check_opening(self, draw, number, before, result):
        history = draw.nodes[number].history()
        if result[0] == "raised":
            self.assertEqual((result, history, draw.link.is_open(number)), (("raised", "PowerCut", None), before, False))
            return
        self.assertEqual((result[1], draw.link.is_open(number)), (len(history), True))
        self.assertGreaterEqual(len(history), draw.safe[number])
        maybe = draw.maybe[number]
        if len(history) > len(before):
            # The event of the call that was cut; a reclaim does not tell what it would have removed.
            self.assertEqual(history[:-1], before)
            self.assertEqual(history[-1][:len(maybe)], maybe)
            draw.counts["maybe"] = draw.counts.get("maybe", 0) + 1
        else:
            self.assertEqual(history, before[:len(history)])
            draw.counts["lost"] = draw.counts.get("lost", 0) + len(before) - len(history)
        self.check_told(draw, number, history)
        draw.safe[number], draw.maybe[number] = len(history), None

    def check_told(self, draw, number, history):
        """Every message and every report that the node gave away is one of its history."""
        node = Node(len(draw.nodes), number)
        given = [node.perform(event) for event in history]
        for one in draw.told[number]:
            self.assertIn(one, given)

    def check_references(self, draw):
        """What roots reach is there, at its owner."""
        nodes = draw.nodes
        self.assertEqual(dangling(nodes), [])
        for at, kind, *rest in reached(nodes):
            if kind == "object":
                self.assertIn(rest[0], nodes[at].heap())
            else:
                self.assertIn(tuple(rest), nodes[at].imports())
                self.assertIn((at, rest[1]), [row[:2] for row in nodes[rest[0]].exports()])

    def finish(self, draw):
        """All houses are open, and rounds and a joint collection are made: exactly what is reachable is left."""
        draw.open_all()
        self.check_references(draw)
        for _ in range(len(draw.link.letters())):
            if draw.chance.random() < 0.5:
                draw.deliver(draw.chance.randrange(len(draw.link.letters())))
        found = reachable(draw.nodes)
        unreachable = sum(len(node.heap()) for node in draw.nodes) - len(found)
        draw.round()
        for letter in draw.link.letters():
            if letter[0] == "message":
                self.assertIsNone(draw.deliver(draw.link.letters().index(letter))[1])
        self.assertEqual(reachable(draw.nodes), found)
        draw.round()
        draw.round()
        rings = sum(len(node.heap()) for node in draw.nodes) - len(found)
        draw.collect_jointly()
        self.assertEqual([(at, key) for at, node in enumerate(draw.nodes) for key in sorted(node.heap())], found)
        self.assertEqual(reachable(draw.nodes), found)
        self.check_references(draw)
        return unreachable, rings


class CutCoursesTest(CourseCase):
    def test_drawn_courses(self):
        chance = random.Random(36)
        totals = {"unreachable": 0, "rings": 0}
        for _ in range(150):
            draw = LinkDraw(chance, chance.randint(2, 4), 400)
            for _ in range(3):
                draw.add_ring()
                self.run_course(draw, 50)
            unreachable, rings = self.finish(draw)
            self.assertIsNotNone(possible_execution(draw.nodes))
            self.add(totals, {"unreachable": unreachable, "rings": rings}, draw.counts)
        for word, many in (
            ("unreachable", 100), ("rings", 30), ("PowerCut", 100), ("NotOpen", 100), ("NoReport", 10), ("lost", 100),
            ("maybe", 4),
        ):
            self.assertGreater(totals.get(word, 0), many, word)
        self.assertLessEqual(
            set(totals), {"unreachable", "rings", "gave", "maybe", "lost", "PowerCut", "NotOpen", "NoReport", "Inconsistent"},
        )

    def add(self, totals, *counts):
        for one in counts:
            for word, many in one.items():
                totals[word] = totals.get(word, 0) + many

    def test_small_disks(self):
        chance = random.Random(37)
        totals = {}
        for _ in range(40):
            draw = LinkDraw(chance, chance.randint(2, 3), chance.choice((8, 12, 25, 40)))
            draw.add_ring()
            self.run_course(draw, 100)
            draw.open_all()
            self.check_references(draw)
            self.assertIsNotNone(possible_execution(draw.nodes))
            self.add(totals, draw.counts)
        self.assertGreater(totals["LogFull"], 100)

    def test_courses_without_cuts(self):
        chance = random.Random(38)
        for _ in range(15):
            draw = LinkDraw(chance, chance.randint(2, 4), 400, cuts=False)
            draw.add_ring()
            self.run_course(draw, 120)
            before = [tell(node) for node in draw.nodes]
            # Opening each house anew leaves the nodes as they are.
            for number in draw.everyone():
                self.assertEqual(draw.link.reopen(number), len(before[number]["history"]))
            self.assertEqual([tell(node) for node in draw.link.nodes()], before)
            self.finish(draw)


class PossibleExecutionTest(CourseCase, WitnessCase):
    def test_what_a_group_keeps_has_a_witness(self):
        """Point 20 for the nodes of houses that were cut."""
        chance = random.Random(20)
        found = []
        for _ in range(25):
            draw = LinkDraw(chance, chance.randint(2, 4), 400, reclaim=False)
            draw.add_ring()
            self.run_course(draw, 70)
            draw.open_all()
            nodes = draw.nodes
            execution = possible_execution(nodes)
            self.assertEqual([node.history() for node in perform_all(execution)], [node.history() for node in nodes])
            self.assertEqual([tell(node) for node in perform_all(execution)], [tell(node) for node in nodes])
            for group in groups_of(nodes):
                witnesses = self.witnesses(execution, nodes, group, kept_by(nodes, group))
                found += [witness is None for witness in witnesses]
        self.assertGreater(sum(found), 20)
        self.assertGreater(len(found) - sum(found), 200)


if __name__ == "__main__":
    unittest.main()
