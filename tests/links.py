"""Courses of a link that are drawn: events and letters lost, late and doubled, cuts and openings."""

from keptbywitness.link import Link
from draws import Draw
from models import outcome
from test_log_cuts import draw_torn

# What is drawn beside the events of houses, and how often.
ACTIONS = {
    "event": 40, "deliver": 30, "lose": 4, "double": 4, "sync": 3, "reclaim": 3, "schedule": 3, "cut": 1, "open": 6,
}


class LinkDraw(Draw):
    """Draws calls of a link, and notes what they must leave.

    For each node safe is how many of its events cannot be lost any more, maybe the event of the call that was
    cut, which may be there at the next opening, and given a list of the messages and reports that it gave away.
    """

    def __init__(self, chance, nodes, blocks, cuts=True, reclaim=True):
        super().__init__(chance, nodes)
        self.link = Link(nodes, blocks)
        self.safe = [0] * nodes
        self.maybe = [None] * nodes
        self.told = [[] for _ in range(nodes)]
        self.actions = dict(ACTIONS)
        self.counts = {}
        if not cuts:
            self.actions.update({"schedule": 0, "cut": 0, "open": 0})
        if not reclaim:
            self.actions["reclaim"] = 0

    def everyone(self):
        return tuple(range(len(self.nodes)))

    def all_open(self):
        return all(self.link.is_open(number) for number in self.everyone())

    def call(self, number, event, method, *arguments):
        """The outcome of a call of the link, by which a node performs the event if there is one."""
        result = outcome(method, *arguments)
        self.nodes = self.link.nodes()
        if result[0] == "gave":
            if event is not None and event[0] in ("send", "report"):
                self.told[number].append(result[1])
                self.safe[number] = len(self.nodes[number].history())
        elif result[1] == "PowerCut":
            self.maybe[number] = event
        word = result[1] if result[0] == "raised" else "gave"
        self.counts[word] = self.counts.get(word, 0) + 1
        return result

    def event(self, number, event):
        return self.call(number, event, self.link.perform, number, event)

    def deliver(self, at):
        kind, *rest = self.link.letters()[at]
        message = rest[0]
        number = message[1] if kind == "message" else message
        return self.call(number, ("receive", message) if kind == "message" else None, self.link.deliver, at)

    def reclaim(self, number, group):
        return self.call(number, ("remove",), self.link.reclaim, number, group)

    def reopen(self, number):
        result = outcome(self.link.reopen, number)
        self.nodes = self.link.nodes()
        return result

    def act(self):
        """One drawn action: its word, its node or None, and its outcome or None."""
        word = self.chance.choices(list(self.actions), list(self.actions.values()))[0]
        number = self.chance.randrange(len(self.nodes))
        return (word, *getattr(self, "act_" + word)(number))

    def act_event(self, number):
        words = ("make", "read", "write", "drop", "send", "send", "collect", "report")
        event = getattr(self, "draw_" + self.chance.choice(words))(number)
        return (number, None) if event is None else (number, self.event(number, event))

    def any_letter(self):
        many = len(self.link.letters())
        if many == 0:
            return None
        return self.chance.randrange(many) if self.chance.random() < self.late else 0

    def act_deliver(self, number):
        at = self.any_letter()
        return (None, None) if at is None else (None, self.deliver(at))

    def act_lose(self, number):
        at = self.any_letter()
        return (None, None) if at is None else (None, outcome(self.link.drop, at))

    def act_double(self, number):
        at = self.any_letter()
        return (None, None) if at is None else (None, outcome(self.link.duplicate, at))

    def act_sync(self, number):
        result = self.call(number, None, self.link.sync, number)
        if result[0] == "gave":
            self.safe[number] = result[1]
        return (number, result)

    def act_reclaim(self, number):
        group = [other for other in self.everyone() if other == number or self.chance.random() < 0.7]
        return (number, self.reclaim(number, tuple(group)))

    def act_schedule(self, number):
        return (number, outcome(self.link.schedule_cut, number, self.chance.randint(0, 12), draw_torn(self.chance, 30)))

    def act_cut(self, number):
        return (number, outcome(self.link.cut_power, number, draw_torn(self.chance, 30)))

    def act_open(self, number):
        if self.link.is_open(number) and self.chance.random() < 0.8:
            return (number, None)
        return (number, self.reopen(number))

    def add_ring(self):
        """A ring over some nodes, by letters; it may fail on the way, where a house cannot be used."""
        members = self.chance.sample(self.everyone(), self.chance.randint(2, len(self.nodes)))
        roots = [self.event(member, ("make", 1)) for member in members]
        if any(root[0] == "raised" for root in roots):
            return
        roots = [root for _, root in roots]
        for at, member in enumerate(members):
            if self.event(members[at - 1], ("send", member, (roots[at - 1],)))[0] == "raised":
                return
            result = self.deliver(len(self.link.letters()) - 1)
            if result[0] == "raised" or result[1] is None:
                return
            self.event(member, ("write", roots[at], 0, result[1][0]))
            self.event(member, ("drop", result[1][0]))
        for member, root in zip(members, roots):
            if self.chance.random() < 0.8:
                self.event(member, ("drop", root))

    def open_all(self):
        """Opens all houses that are not open, and lets no cut come any more."""
        for number in self.everyone():
            self.link.schedule_cut(number, 100000, [])
            if not self.link.is_open(number):
                self.reopen(number)

    def round(self):
        """A round by letters: nothing of before is on its way any more then."""
        for number in self.everyone():
            self.event(number, ("collect",))
        first = len(self.link.letters())
        for number in self.everyone():
            for to in self.everyone():
                if to != number:
                    self.event(number, ("send", to, ()))
        for _ in range(len(self.link.letters()) - first):
            self.deliver(first)

    def collect_jointly(self):
        """A joint collection of all nodes by letters."""
        first = len(self.link.letters())
        for number in self.everyone():
            self.event(number, ("report",))
        for _ in range(len(self.link.letters()) - first):
            self.deliver(first)
        for number in self.everyone():
            self.reclaim(number, self.everyone())
        for number in self.everyone():
            self.event(number, ("collect",))
