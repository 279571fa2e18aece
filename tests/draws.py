"""Executions that are drawn: nodes that do this and that, with messages lost, late and repeated."""

from keptbywitness.nodes import Node
from models import outcome

WEIGHTS = {"make": 3, "read": 2, "write": 4, "drop": 5, "send": 8, "receive": 10, "collect": 2, "report": 2, "reclaim": 0}


class Draw:
    """Draws steps that are possible, one after another, and performs them by nodes of its own."""

    def __init__(self, chance, nodes, reclaim=0):
        self.chance = chance
        self.nodes = [Node(nodes, number) for number in range(nodes)]
        self.steps = []
        self.given = []
        self.planned = []
        self.weights = {word: weight * chance.choice((0.2, 1, 1, 3)) for word, weight in WEIGHTS.items()}
        self.weights["reclaim"] = reclaim
        # How often a message is received that is not one of the newest ones.
        self.late = chance.choice((0, 0.2, 0.6, 1))

    def execution(self):
        return (len(self.nodes), tuple(self.steps))

    def of_kind(self, word):
        """The indexes of the steps so far with this word."""
        return [at for at, (_, event) in enumerate(self.steps) if event[0] == word]

    def add(self, many):
        """Adds so many steps, or fewer; the execution."""
        for _ in range(many):
            if self.planned:
                number, word = self.planned.pop(0)
            else:
                number = self.chance.randrange(len(self.nodes))
                word = self.chance.choices(list(self.weights), list(self.weights.values()))[0]
            event = getattr(self, "draw_" + word)(number)
            if event is not None:
                self.try_step(number, event)
        return self.execution()

    def try_step(self, number, event):
        result = self.perform(number, event)
        if result[0] == "gave":
            self.steps.append((number, event))
            self.given.append(result[1])

    def perform(self, number, event):
        node = self.nodes[number]
        if event[0] == "receive":
            return outcome(node.perform, ("receive", self.given[event[1]]))
        if event[0] == "reclaim":
            return outcome(node.reclaim, [self.given[at] for at in event[1]])
        return outcome(node.perform, event)

    def any_root(self, number):
        roots = [root for root, _ in self.nodes[number].roots()]
        return self.chance.choice(roots) if roots else None

    def draw_make(self, number):
        return ("make", self.chance.randint(0, 3)) if len(self.nodes[number].heap()) < 5 else None

    def any_field(self, number):
        heap = self.nodes[number].heap()
        places = [
            (root, field)
            for root, reference in self.nodes[number].roots() if reference[0] == "object"
            for field in range(len(heap[reference[1]]))
        ]
        return self.chance.choice(places) if places else None

    def draw_read(self, number):
        place = self.any_field(number)
        return place and ("read", *place)

    def draw_write(self, number):
        place = self.any_field(number)
        return place and ("write", *place, self.chance.choice((None, *[self.any_root(number)] * 4)))

    def draw_drop(self, number):
        root = self.any_root(number)
        return None if root is None else ("drop", root)

    def draw_send(self, number):
        to = self.chance.choice([node for node in range(len(self.nodes)) if node != number])
        roots = [self.any_root(number) for _ in range(self.chance.choice((0, 1, 1, 2, 4)))]
        return ("send", to, tuple(root for root in roots if root is not None))

    def draw_receive(self, number):
        mine = [at for at in self.of_kind("send") if self.steps[at][1][1] == number]
        if not mine:
            return None
        return ("receive", self.chance.choice(mine if self.chance.random() < self.late else mine[-2:]))

    def draw_collect(self, number):
        return ("collect",)

    def draw_report(self, number):
        return ("report",)

    def draw_reclaim(self, number):
        of_nodes = {}
        if self.chance.random() < 0.3:
            everyone = range(len(self.nodes))
            self.planned = [(node, "report") for node in everyone] + [(node, "joint_reclaim") for node in everyone]
            return None
        for at in self.of_kind("report"):
            node = self.steps[at][0]
            if node == number or self.chance.random() < 0.6:
                of_nodes[node] = at
        return ("reclaim", tuple(of_nodes[node] for node in sorted(of_nodes)))

    def draw_joint_reclaim(self, number):
        last = {self.steps[at][0]: at for at in self.of_kind("report")}
        return ("reclaim", tuple(last[node] for node in sorted(last)))


def draw_wrong_event(chance, node, messages):
    """An event with drawn numbers, of which many are not there; messages are some for any node."""
    nodes = node.nodes()
    root, field, to = chance.randint(-1, 8), chance.randint(-1, 4), chance.randint(-1, nodes)
    roots = tuple(chance.randint(-1, 8) for _ in range(chance.choice((0, 1, 1, 2, 5))))
    entries = {(row[0], row[1]) for row in node.exports() if chance.random() < 0.3}
    if chance.random() < 0.5:
        entries.add((to, chance.randint(0, 3)))
    held = tuple(sorted({chance.randint(0, 3) for _ in range(2)}))
    items = tuple((chance.choice(("export", "return")), chance.randint(0, 3)) for _ in range(chance.randint(0, 2)))
    forged = (to, chance.choice((node.number(),) * 4 + (to,)), chance.randint(1, 12), chance.randint(0, 4), held, items)
    return chance.choice((
        ("make", chance.randint(-1, 5)), ("read", root, field), ("write", root, field, chance.choice((None, root + 1))),
        ("drop", root), ("send", to, roots), ("receive", forged), ("receive", chance.choice(messages or [forged])),
        ("remove", tuple(sorted(entries))),
    ))
