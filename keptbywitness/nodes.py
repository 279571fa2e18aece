"""A node: its objects, roots and imports, its table of entries, and the events that change them."""

from keptbywitness.errors import NoEntry, NoField, NoReport, NoRoot, NotObject, OutOfRange, WrongMessage
from keptbywitness.groups import garbage
from keptbywitness.heaps import led_imports, led_objects

FIELDS_MOST = 4
CARRIED_MOST = 4

_NODES_LEAST = 2
_NODES_MOST = 4

# The place of the entries in a report.
_EXPORTS = 4


def is_network_size(many):
    """Whether a network can have so many nodes."""
    return _NODES_LEAST <= many <= _NODES_MOST


def is_passed_over(event, given):
    """Whether an event that gave this is a message that is not accepted, and so none of the history."""
    # A message that is accepted gives a tuple, also if it carries nothing.
    return event[0] == "receive" and given is None


class Node:
    """One node of a network, as its events have made it."""

    def __init__(self, nodes, number):
        if not is_network_size(nodes):
            raise OutOfRange("nodes")
        if not 0 <= number < nodes:
            raise OutOfRange("number")
        self._nodes = nodes
        self._number = number
        self._heap = {}
        self._roots = {}
        # For each (to, entry) its target, and the number of the last message that carried it.
        self._table = {}
        # A dict of True with the imports (owner, entry) that the node holds.
        self._imports = {}
        # For each import that was sent back the number of the message.
        self._returned = {}
        self._sent = [0] * nodes
        self._seen = [0] * nodes
        self._last_report = None
        self._history = []
        # Counted apart from what is there, so that no number is given again.
        self._next_object = 0
        self._next_root = 0
        self._next_entries = [0] * nodes

    def perform(self, event):
        """Performs an event and returns what it gives; one that is refused changes nothing."""
        given = self._act(event)
        if not is_passed_over(event, given):
            self._history.append(event)
        return given

    def reclaim(self, reports):
        """Removes its entries that the reports show to be garbage; the tuple of these (to, entry)."""
        names = garbage(reports)
        if self._last_report is None or self._last_report not in reports:
            raise NoReport("the last report of the node is not among the reports")
        reported = {(to, entry): number for to, entry, number, _ in self._last_report[_EXPORTS]}
        entries = []
        for owner, to, entry in names:
            if owner == self._number and self._is_carried_last(to, entry, reported[(to, entry)]):
                entries.append((to, entry))
        self.perform(("remove", tuple(entries)))
        return tuple(entries)

    def number(self):
        """The number of the node."""
        return self._number

    def nodes(self):
        """How many nodes the network has."""
        return self._nodes

    def roots(self):
        """The rising list of the roots, as tuples (root, reference)."""
        return sorted(self._roots.items())

    def heap(self):
        """A new dict from the ids of the objects to the tuples of their fields."""
        return dict(self._heap)

    def exports(self):
        """The rising list of the entries of the table, as tuples (to, entry, target, number)."""
        return sorted([(to, entry, target, last) for (to, entry), (target, last) in self._table.items()])

    def imports(self):
        """The rising list of the imports (owner, entry) that the node holds."""
        return sorted(self._imports)

    def sent(self):
        """For each node the number of the last message sent to it."""
        return tuple(self._sent)

    def seen(self):
        """For each node the number of the last message accepted from it."""
        return tuple(self._seen)

    def returned(self):
        """The rising list of the records (owner, entry, number) of imports sent back."""
        return sorted([(owner, entry, last) for (owner, entry), last in self._returned.items()])

    def report(self):
        """The report that the node would make now."""
        roots = led_imports(self._heap, list(self._roots.values()))
        exports = []
        for to, entry, target, last in self.exports():
            exports.append((to, entry, last, tuple(led_imports(self._heap, [target]))))
        return (self._number, self.sent(), self.seen(), tuple(roots), tuple(exports), tuple(self.returned()))

    def last_report(self):
        """The report that the node made last, or None."""
        return self._last_report

    def history(self):
        """The list of the events of the node."""
        return list(self._history)

    def kept(self):
        """The rising list of the ids of the objects that collecting would keep."""
        return led_objects(self._heap, self._used())

    def twin(self):
        """A new node that is like this one."""
        other = Node(self._nodes, self._number)
        other._heap = dict(self._heap)
        other._roots = dict(self._roots)
        other._table = {name: row for name, row in self._table.items()}
        other._imports = {name: True for name in self._imports}
        other._returned = {name: last for name, last in self._returned.items()}
        other._sent = list(self._sent)
        other._seen = list(self._seen)
        other._last_report = self._last_report
        other._history = list(self._history)
        other._next_object = self._next_object
        other._next_root = self._next_root
        other._next_entries = list(self._next_entries)
        return other

    def _act(self, event):
        """Performs an event, but for its place in the history."""
        match event:
            case ("make", fields):
                return self._make(fields)
            case ("read", root, field):
                return self._read(root, field)
            case ("write", root, field, other):
                return self._write(root, field, other)
            case ("drop", root):
                return self._drop(root)
            case ("send", to, roots):
                return self._send(to, roots)
            case ("receive", message):
                return self._receive(message)
            case ("collect",):
                return self._collect()
            case ("report",):
                return self._make_report()
            case ("remove", entries):
                return self._remove(entries)
            case _:
                raise OutOfRange("event")

    def _make(self, fields):
        """A new object with so many fields; the new root for it."""
        if not 0 <= fields <= FIELDS_MOST:
            raise OutOfRange("fields")
        key = self._next_object
        self._next_object += 1
        self._heap[key] = (None,) * fields
        return self._add_root(("object", key))

    def _read(self, root, field):
        """A new root for the reference in a field, or None if there is none."""
        reference = self._heap[self._object_with(root, field)][field]
        if reference is None:
            return None
        return self._add_root(reference)

    def _write(self, root, field, other):
        """Gives a field the reference of the root other, or None."""
        key = self._object_with(root, field)
        reference = None if other is None else self._reference(other)
        fields = self._heap[key]
        self._heap[key] = fields[:field] + (reference,) + fields[field + 1:]

    def _drop(self, root):
        """Removes a root."""
        self._reference(root)
        del self._roots[root]

    def _send(self, to, roots):
        """The new message for another node, with the references of the roots."""
        if not self._is_other(to):
            raise OutOfRange("to")
        if len(roots) > CARRIED_MOST:
            raise OutOfRange("roots")
        references = [self._reference(root) for root in roots]
        self._sent[to] += 1
        number = self._sent[to]
        held = [entry for owner, entry in self.imports() if owner == to]
        carried = []
        for reference in references:
            carried.append(self._carry(to, number, reference))
        return (self._number, to, number, self._seen[to], tuple(held), tuple(carried))

    def _receive(self, message):
        """The tuple of the new roots of a message, or None if it is not accepted."""
        sender, receiver, number, seen, held, carried = message
        if not self._is_other(sender) or receiver != self._number:
            raise WrongMessage("the message is not from another node for this one")
        if number <= self._seen[sender]:
            return None
        if seen > self._sent[sender]:
            raise WrongMessage("the message has seen more than was sent")
        if any([kind == "return" and (sender, entry) not in self._table for kind, entry in carried]):
            raise NoEntry("an item that is returned is not in the table")
        self._seen[sender] = number
        roots = []
        for kind, entry in carried:
            roots.append(self._take(sender, kind, entry))
        # Only now, because what the message returns may be what nobody else holds any more.
        self._forget(sender, seen, held)
        return tuple(roots)

    def _collect(self):
        """Removes what is not used; the tuples of the objects and of the imports that are gone."""
        used = self._used()
        objects = {key: True for key in led_objects(self._heap, used)}
        imports = {name: True for name in led_imports(self._heap, used)}
        gone_objects = tuple([key for key in sorted(self._heap) if key not in objects])
        gone_imports = tuple([name for name in sorted(self._imports) if name not in imports])
        for key in gone_objects:
            del self._heap[key]
        for name in gone_imports:
            del self._imports[name]
        return (gone_objects, gone_imports)

    def _make_report(self):
        """The report of now, which becomes the last one."""
        self._last_report = self.report()
        return self._last_report

    def _remove(self, entries):
        """Removes entries (to, entry) from the table."""
        if any([name not in self._table for name in entries]):
            raise NoEntry("there is no such entry")
        for name in entries:
            del self._table[name]

    def _is_other(self, node):
        """Whether this is the number of another node of the network."""
        return 0 <= node < self._nodes and node != self._number

    def _reference(self, root):
        """The reference of a root."""
        if root not in self._roots:
            raise NoRoot("there is no such root")
        return self._roots[root]

    def _object_with(self, root, field):
        """The id of the object to which a root refers, if it has this field."""
        reference = self._reference(root)
        if reference[0] != "object":
            raise NotObject("the root refers to an import")
        if not 0 <= field < len(self._heap[reference[1]]):
            raise NoField("the object has no such field")
        return reference[1]

    def _add_root(self, reference):
        """The number of a new root with this reference."""
        root = self._next_root
        self._next_root += 1
        self._roots[root] = reference
        return root

    def _carry(self, to, number, reference):
        """What the message with this number carries for a reference."""
        if reference[0] == "import" and reference[1] == to:
            self._returned[(to, reference[2])] = number
            return ("return", reference[2])
        entry = self._entry_with(to, reference)
        self._table[(to, entry)] = (reference, number)
        return ("export", entry)

    def _entry_with(self, to, reference):
        """The number of the entry for a node that has this target, or else of a new one."""
        for (receiver, kept), (target, _) in self._table.items():
            if receiver == to and target == reference:
                return kept
        entry = self._next_entries[to]
        self._next_entries[to] += 1
        return entry

    def _take(self, sender, kind, entry):
        """The new root for an item that a message of sender carries."""
        if kind == "return":
            return self._add_root(self._table[(sender, entry)][0])
        self._imports[(sender, entry)] = True
        return self._add_root(("import", sender, entry))

    def _forget(self, sender, seen, held):
        """Removes the entries and the records that a message of sender shows to be needed no more."""
        kept = {}
        for (to, entry), (target, last) in self._table.items():
            if to != sender or last > seen or entry in held:
                kept[(to, entry)] = (target, last)
        self._table = kept
        self._returned = {
            name: last for name, last in self._returned.items() if name[0] != sender or last > seen
        }

    def _used(self):
        """The references of all roots and the targets of all entries."""
        return list(self._roots.values()) + [target for target, _ in self._table.values()]

    def _is_carried_last(self, to, entry, number):
        """Whether the entry is there, and the last message that carried it has this number."""
        return (to, entry) in self._table and self._table[(to, entry)][1] == number


def replay(nodes, number, history):
    """A new node that has performed the events of a history."""
    node = Node(nodes, number)
    for event in history:
        node.perform(event)
    return node
