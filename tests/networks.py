"""Networks for the tests: what they tell, a drawn one, and one that goes by the words of the document."""

from keptbywitness.executions import first_fault, perform_all
from keptbywitness.groups import garbage
from keptbywitness.network import Network
from cases import UnchangedCase
from draws import Draw
from models import Model, outcome, tell


def tell_all(network):
    """All that a network tells of itself."""
    return (network.execution(), [tell(node) for node in network.nodes()])


def network_of(execution):
    """A new network that has performed the steps."""
    network = Network(execution[0])
    for number, event in execution[1]:
        network.perform(number, event)
    return network


class NetworkCase(UnchangedCase):
    def refuses(self, network, error, name, call, *arguments):
        """The call raises exactly this error, and changes nothing of the network."""
        self.raises_unchanged(lambda: tell_all(network), error, name, call, *arguments)

    def is_performed(self, network):
        """The steps of the network lead to nodes that tell the same as its own."""
        execution = network.execution()
        self.assertIsNone(first_fault(execution))
        self.assertEqual([tell(node) for node in perform_all(execution)], [tell(node) for node in network.nodes()])


class NetworkDraw(Draw):
    """As Draw, but a network performs the steps, to which rounds and joint collections may come."""

    def __init__(self, chance, nodes, reclaim=0):
        super().__init__(chance, nodes, reclaim)
        self.network = Network(nodes)

    def perform(self, number, event):
        result = outcome(self.network.perform, number, event)
        self.nodes = self.network.nodes()
        return result

    def step(self, number, event):
        """What a step gives that must be possible."""
        self.try_step(number, event)
        assert self.steps[-1] == (number, event)
        return self.given[-1]

    def add_ring(self, left):
        """A ring over some nodes, each with an object of it; left says how likely each of them keeps its root."""
        members = self.chance.sample(range(len(self.nodes)), self.chance.randint(2, len(self.nodes)))
        roots = [self.step(member, ("make", 1)) for member in members]
        for at, member in enumerate(members):
            self.step(members[at - 1], ("send", member, (roots[at - 1],)))
            (root,) = self.step(member, ("receive", len(self.steps) - 1))
            self.step(member, ("write", roots[at], 0, root))
            self.step(member, ("drop", root))
        for member, root in zip(members, roots):
            if self.chance.random() >= left:
                self.step(member, ("drop", root))

    def round(self):
        self.network.round()
        self.take_steps()

    def collect_jointly(self, group):
        self.network.collect_jointly(group)
        self.take_steps()

    def take_steps(self):
        """Draws go on behind the steps that the network performed itself."""
        self.nodes = self.network.nodes()
        self.steps = list(self.network.execution()[1])
        self.given += [None] * (len(self.steps) - len(self.given))

    def messages(self):
        """The messages that the steps drawn here sent."""
        return [self.given[at] for at in self.of_kind("send") if self.given[at] is not None]


class ModelNetwork:
    """Points 18 and 23 by their words, over models of nodes; answers as outcome."""

    def __init__(self, nodes):
        self.models = [Model(nodes, number) for number in range(nodes)]
        self.rows = []

    def perform(self, number, event):
        fault = next((fault for wrong, fault in self.faults(number, event) if wrong), None)
        if fault is not None:
            return ("raised", *fault)
        result = self.act(number, event)
        if result[0] == "gave":
            self.rows.append((number, event, result[1]))
        return result

    def faults(self, number, event):
        yield number not in range(len(self.models)), ("OutOfRange", "node")
        yield event[0] == "remove", ("OutOfRange", "event")
        yield len(self.rows) == 400, ("OutOfRange", "steps")
        if event[0] == "receive":
            mine = [at for at, row in enumerate(self.rows) if row[1][:2] == ("send", number)]
            yield event[1] not in mine, ("NoLetter", None)
        if event[0] == "reclaim":
            made = [at for at, row in enumerate(self.rows) if row[1] == ("report",)]
            yield not set(event[1]) <= set(made), ("NoReport", None)
            nodes = [self.rows[at][0] for at in event[1]]
            yield nodes != sorted(set(nodes)), ("NoReport", None)
            reports = [self.rows[at][2] for at in event[1]]
            ahead = [one for one in reports for other in reports if one[2][other[0]] > other[1][one[0]]]
            yield ahead != [], ("Inconsistent", None)
            yield self.models[number].last not in reports or self.models[number].last is None, ("NoReport", None)

    def act(self, number, event):
        model = self.models[number]
        if event[0] == "receive":
            return model.perform(("receive", self.rows[event[1]][2]))
        if event[0] != "reclaim":
            return model.perform(event)
        gone = []
        for owner, to, entry in garbage([self.rows[at][2] for at in event[1]]):
            last = [row[2] for row in model.last[4] if row[:2] == (to, entry)]
            if owner == number and [row[3] for row in model.entries if row[:2] == [to, entry]] == last:
                gone.append((to, entry))
        model.perform(("remove", tuple(gone)))
        return ("gave", tuple(gone))

    def tell_all(self):
        execution = (len(self.models), tuple(row[:2] for row in self.rows))
        return (execution, [model.tell() for model in self.models])
