"""Which entries the reports of a group show to be live, and which objects are kept or reachable."""

from keptbywitness.errors import Inconsistent, NoEntry, OutOfRange
from keptbywitness.heaps import least_path, led_objects

# The places of the items in a report.
_NODE = 0
_SENT = 1
_SEEN = 2
_ROOTS = 3
_EXPORTS = 4
_RETURNED = 5


def is_consistent(reports):
    """Whether no member has seen more from another one than that one had sent."""
    return all([_saw_only_sent(reader, writer) for reader in reports for writer in reports])


def live(reports):
    """The rising list of the names of the entries that somebody may still use."""
    _check_consistent(reports)
    return sorted(_live_names(reports))


def garbage(reports):
    """The rising list of the names of the entries that can only keep each other."""
    _check_consistent(reports)
    found = _live_names(reports)
    return sorted([name for name in _numbers(reports) if name not in found])


def why_live(reports, entry):
    """None for a garbage entry, otherwise (reason, path) with the least of the shortest paths."""
    _check_consistent(reports)
    reasons = _own_reasons(reports)
    if entry not in reasons:
        raise NoEntry("no report has this entry")
    ends = {name: True for name, reason in reasons.items() if reason is not None}
    keepers = {name: [] for name in reasons}
    for keeper, name in _keeping_pairs(reports):
        keepers[name].append(keeper)
    path = least_path(keepers, [entry], ends)
    if path is None:
        return None
    return (reasons[path[-1]], tuple(path))


def is_rising(row):
    """Whether each item of a list or a tuple is greater than the one before it."""
    return all([low < high for low, high in zip(row, row[1:])])


def is_group(group, many):
    """Whether group is a rising tuple, not empty, of nodes of a network of so many nodes."""
    if len(group) == 0 or group[0] < 0 or group[-1] >= many:
        return False
    return is_rising(group)


def kept_by(nodes, group):
    """The rising list of the tuples (owner, id) of the objects that the group keeps."""
    if not is_group(group, len(nodes)):
        raise OutOfRange("group")
    reports = [nodes[member].report() for member in group]
    _check_consistent(reports)
    names = _live_names(reports)
    kept = []
    for member in group:
        start = _used_by(nodes[member], member, names)
        kept.extend([(member, key) for key in led_objects(nodes[member].heap(), start)])
    return kept


def reachable(nodes):
    """The rising list of the tuples (owner, id) of all objects to which a root of some node leads."""
    places = _reached(nodes, _targets(nodes))
    return sorted([(at, reference[1]) for at, reference in places if reference[0] == "object"])


def dangling(nodes):
    """The rising list of (holder, owner, entry) of imports that roots lead to, but that have no entry."""
    targets = _targets(nodes)
    missing = []
    for holder, reference in _reached(nodes, targets):
        if reference[0] == "import" and _entry_name(holder, reference) not in targets:
            missing.append((holder, reference[1], reference[2]))
    return sorted(missing)


def _check_consistent(reports):
    """Raises Inconsistent if the reports cannot be used together."""
    if not is_consistent(reports):
        raise Inconsistent("a member has seen more than another one had sent")


def _saw_only_sent(reader, writer):
    """Whether the report reader has seen no more from the node of writer than that one had sent."""
    # Of itself a node has sent and seen nothing; only other members count.
    here, there = reader[_NODE], writer[_NODE]
    return here == there or reader[_SEEN][there] <= writer[_SENT][here]


def _numbers(reports):
    """For the name of each entry the number of the last message that carried it."""
    numbers = {}
    for report in reports:
        for to, entry, number, _ in report[_EXPORTS]:
            numbers[(report[_NODE], to, entry)] = number
    return numbers


def _rooted(reports):
    """A dict of True with the names of the entries that are among the roots of their holders."""
    return {(owner, report[_NODE], entry): True for report in reports for owner, entry in report[_ROOTS]}


def _sent_back(reports):
    """For the name of each entry that was sent back the number of the message."""
    numbers = {}
    for report in reports:
        for owner, entry, number in report[_RETURNED]:
            numbers[(owner, report[_NODE], entry)] = number
    return numbers


def _own_reasons(reports):
    """For the name of each entry the first reason of its own to be live, or None."""
    seen = {report[_NODE]: report[_SEEN] for report in reports}
    rooted = _rooted(reports)
    returns = _sent_back(reports)
    reasons = {}
    for name, number in _numbers(reports).items():
        owner, to, _ = name
        if to not in seen:
            reasons[name] = "stranger"
        elif number > seen[to][owner]:
            reasons[name] = "sent"
        elif name in returns and returns[name] > seen[owner][to]:
            reasons[name] = "returned"
        elif name in rooted:
            reasons[name] = "root"
        else:
            reasons[name] = None
    return reasons


def _keeping_pairs(reports):
    """The pairs of entries of which the first, if it is live, makes the second live."""
    names = _numbers(reports)
    pairs = []
    for report in reports:
        holder = report[_NODE]
        for to, entry, _, imports in report[_EXPORTS]:
            for owner, held in imports:
                # What is held of strangers, or is no entry any more, has no name here.
                if (owner, holder, held) in names:
                    pairs.append(((holder, to, entry), (owner, holder, held)))
    return pairs


def _live_names(reports):
    """A dict of True with the names of the live entries of consistent reports."""
    reasons = _own_reasons(reports)
    kept_from = {name: [] for name in reasons}
    for keeper, name in _keeping_pairs(reports):
        kept_from[keeper].append(name)
    waiting = [name for name, reason in reasons.items() if reason is not None]
    found = {}
    while waiting:
        name = waiting.pop()
        if name not in found:
            found[name] = True
            waiting.extend(kept_from[name])
    return found


def _used_by(node, number, names):
    """The references of the roots of a node, and the targets of those of its entries in names."""
    start = [reference for _, reference in node.roots()]
    for to, entry, target, _ in node.exports():
        if (number, to, entry) in names:
            start.append(target)
    return start


def _entry_name(holder, reference):
    """The name of the entry to which a reference to an import refers, at the node that holds it."""
    return (reference[1], holder, reference[2])


def _targets(nodes):
    """For the name of each entry in the tables of all nodes its target."""
    targets = {}
    for owner, node in enumerate(nodes):
        for to, entry, target, _ in node.exports():
            targets[(owner, to, entry)] = target
    return targets


def _reached(nodes, targets):
    """A dict of True with the pairs (node, reference) to which roots refer or lead, over all nodes."""
    heaps = [node.heap() for node in nodes]
    waiting = []
    for at, node in enumerate(nodes):
        waiting.extend([(at, reference) for _, reference in node.roots()])
    found = {}
    while waiting:
        place = waiting.pop()
        if place not in found:
            found[place] = True
            waiting.extend(_next_places(heaps, targets, place))
    return found


def _next_places(heaps, targets, place):
    """The pairs (node, reference) to which the reference of a place leads at once."""
    at, reference = place
    if reference[0] == "object":
        return [(at, field) for field in heaps[at][reference[1]] if field is not None]
    name = _entry_name(at, reference)
    if name in targets:
        return [(name[0], targets[name])]
    return []
