"""A node by the words of the document, worked out anew at each question, to compare the program with."""

import copy
import itertools


def outcome(call, *arguments):
    """("gave", value), or ("raised", name of the error, its field)."""
    try:
        return ("gave", call(*arguments))
    except ValueError as error:
        return ("raised", type(error).__name__, getattr(error, "name", None))


def tell(node):
    """All that a node tells of itself."""
    return {
        "number": node.number(), "nodes": node.nodes(), "roots": node.roots(), "heap": node.heap(),
        "exports": node.exports(), "imports": node.imports(), "sent": node.sent(), "seen": node.seen(),
        "returned": node.returned(), "report": node.report(), "last_report": node.last_report(),
        "history": node.history(), "kept": node.kept(),
    }


def groups_of(nodes):
    """All groups of these nodes, the smaller ones first."""
    for size in range(1, len(nodes) + 1):
        yield from itertools.combinations(range(len(nodes)), size)


def reached(nodes):
    """All triples (node, kind, rest) to which a root leads over all nodes, word by word after points 10 and 12."""
    found = {(at, *reference) for at, node in enumerate(nodes) for _, reference in node.roots()}
    waiting = list(found)
    while waiting:
        at, kind, *rest = waiting.pop()
        if kind == "object":
            following = [(at, *field) for field in nodes[at].heap()[rest[0]] if field is not None]
        else:
            owner, entry = rest
            following = [(owner, *row[2]) for row in nodes[owner].exports() if row[:2] == (at, entry)]
        waiting += [one for one in following if one not in found]
        found.update(following)
    return found


class Model:
    """One node. Entries are lists [to, entry, target, last message], records [owner, entry, message]."""

    def __init__(self, nodes, number):
        self.many, self.me = nodes, number
        self.objects, self.using, self.entries, self.held, self.records = {}, {}, [], set(), []
        self.out, self.into = {}, {}
        self.made, self.rooted, self.entered = 0, 0, {}
        self.last, self.past = None, []

    def perform(self, event):
        """As outcome."""
        fault = next((fault for wrong, fault in self.faults(event) if wrong), None)
        if fault is not None:
            return ("raised", *fault)
        if event[0] == "receive" and self.is_late(event[1]):
            return ("gave", None)
        self.past.append(event)
        return ("gave", getattr(self, "do_" + event[0])(*event[1:]))

    def is_late(self, message):
        return message[2] <= self.into.get(message[0], 0)

    def is_other(self, node):
        return node in range(self.many) and node != self.me

    def faults(self, event):
        """Pairs of whether something is wrong and of the error, in the order of the interface."""
        word = event[0]
        if word == "make":
            yield event[1] not in range(5), ("OutOfRange", "fields")
        if word in ("read", "write", "drop"):
            yield event[1] not in self.using, ("NoRoot", None)
        if word in ("read", "write"):
            kind, where = self.using[event[1]][:2]
            yield kind == "import", ("NotObject", None)
            yield event[2] not in range(len(self.objects[where])), ("NoField", None)
        if word == "write":
            yield event[3] is not None and event[3] not in self.using, ("NoRoot", None)
        if word == "send":
            yield not self.is_other(event[1]), ("OutOfRange", "to")
            yield len(event[2]) > 4, ("OutOfRange", "roots")
            yield not set(event[2]) <= set(self.using), ("NoRoot", None)
        if word == "receive":
            sender, receiver, _, seen, _, carried = event[1]
            yield not self.is_other(sender) or receiver != self.me, ("WrongMessage", None)
            if not self.is_late(event[1]):
                yield seen > self.out.get(sender, 0), ("WrongMessage", None)
                back = {entry for kind, entry in carried if kind == "return"}
                yield not back <= {row[1] for row in self.entries if row[0] == sender}, ("NoEntry", None)
        if word == "remove":
            yield not set(event[1]) <= {tuple(row[:2]) for row in self.entries}, ("NoEntry", None)

    def new_root(self, reference):
        self.using[self.rooted] = reference
        self.rooted += 1
        return self.rooted - 1

    def do_make(self, fields):
        self.objects[self.made] = [None] * fields
        self.made += 1
        return self.new_root(("object", self.made - 1))

    def do_read(self, root, field):
        there = self.objects[self.using[root][1]][field]
        return None if there is None else self.new_root(there)

    def do_write(self, root, field, other):
        self.objects[self.using[root][1]][field] = None if other is None else self.using[other]

    def do_drop(self, root):
        self.using.pop(root)

    def do_send(self, to, roots):
        number = self.out.get(to, 0) + 1
        self.out[to] = number
        carried = tuple(self.carry(to, number, self.using[root]) for root in roots)
        held = tuple(sorted(entry for owner, entry in self.held if owner == to))
        return (self.me, to, number, self.into.get(to, 0), held, carried)

    def carry(self, to, number, reference):
        if reference[:2] == ("import", to):
            self.records = [row for row in self.records if row[:2] != [to, reference[2]]]
            self.records.append([to, reference[2], number])
            return ("return", reference[2])
        fitting = [row for row in self.entries if row[0] == to and row[2] == reference]
        if not fitting:
            fitting = [[to, self.entered.get(to, 0), reference, None]]
            self.entered[to] = fitting[0][1] + 1
            self.entries += fitting
        fitting[0][3] = number
        return ("export", fitting[0][1])

    def do_receive(self, message):
        sender, _, number, seen, held, carried = message
        self.into[sender] = number
        roots = []
        for kind, entry in carried:
            if kind == "return":
                roots.append(self.new_root(*[row[2] for row in self.entries if row[:2] == [sender, entry]]))
            else:
                self.held.add((sender, entry))
                roots.append(self.new_root(("import", sender, entry)))
        self.entries = [row for row in self.entries if not (row[0] == sender and row[3] <= seen and row[1] not in held)]
        self.records = [row for row in self.records if not (row[0] == sender and row[2] <= seen)]
        return tuple(roots)

    def do_collect(self):
        led = self.led(self.all_starts())
        gone = tuple(sorted(key for key in self.objects if ("object", key) not in led))
        left = tuple(sorted(one for one in self.held if ("import", *one) not in led))
        self.objects = {key: fields for key, fields in self.objects.items() if key not in gone}
        self.held -= set(left)
        return (gone, left)

    def do_report(self):
        self.last = self.report()
        return self.last

    def do_remove(self, entries):
        self.entries = [row for row in self.entries if tuple(row[:2]) not in entries]

    def all_starts(self):
        return list(self.using.values()) + [row[2] for row in self.entries]

    def led(self, references):
        """All references to which these refer or lead, by widening them until nothing is new."""
        found = set(references)
        while True:
            more = {one for kind, *at in found if kind == "object" for one in self.objects[at[0]]} - {None}
            if more <= found:
                return found
            found |= more

    def led_imports(self, references):
        return tuple(sorted(one[1:] for one in self.led(references) if one[0] == "import"))

    def report(self):
        sent, seen = (tuple(row.get(node, 0) for node in range(self.many)) for row in (self.out, self.into))
        exports = sorted((to, entry, last, self.led_imports([target])) for to, entry, target, last in self.entries)
        records = tuple(sorted(map(tuple, self.records)))
        return (self.me, sent, seen, self.led_imports(self.using.values()), tuple(exports), records)

    def tell(self):
        """As tell of a node."""
        report = self.report()
        return copy.deepcopy({
            "number": self.me, "nodes": self.many, "roots": sorted(self.using.items()),
            "heap": {key: tuple(fields) for key, fields in self.objects.items()},
            "exports": sorted(map(tuple, self.entries)), "imports": sorted(self.held),
            "sent": report[1], "seen": report[2], "returned": list(report[5]), "report": report,
            "last_report": self.last, "history": self.past,
            "kept": sorted(at for kind, at, *_ in self.led(self.all_starts()) if kind == "object"),
        })
