"""Witnesses: executions that look the same to all members of a group, and leave an object reachable."""

from keptbywitness.errors import NoObject, OutOfRange, Reclaims
from keptbywitness.executions import perform_and_note, perform_possible, reclaims
from keptbywitness.groups import is_group, reachable, why_live
from keptbywitness.heaps import led_objects

_OFFERED_MOST = 420

# The places of the items in a message.
_SENDER = 0
_NUMBER = 2
_SEEN = 3
_HELD = 4
_CARRIED = 5


def find_witness(execution, group, owner, key):
    """A witness for the object with the id key, or None if the group does not keep it."""
    nodes, done = _perform_given(execution, group, owner, key)
    if (owner, key) in reachable(nodes):
        return execution
    reports = [nodes[member].report() for member in group]
    heap = nodes[owner].heap()
    for to, entry, target, _ in nodes[owner].exports():
        if key in led_objects(heap, [target]):
            why = why_live(reports, (owner, to, entry))
            if why is not None:
                return _witness_by(execution, nodes, done, why)
    return None


def check_witness(execution, group, owner, key, offered):
    """None if the offered execution is a witness, otherwise its first fault."""
    expected, _ = _perform_given(execution, group, owner, key)
    if len(offered[1]) > _OFFERED_MOST:
        raise OutOfRange("offered")
    if offered[0] != execution[0]:
        return ("nodes",)
    nodes, _, fault = perform_possible(offered)
    faults = [at for at, (_, event) in enumerate(offered[1]) if event[0] == "reclaim"]
    if fault is not None:
        faults.append(fault)
    if faults:
        return ("step", min(faults))
    for member in group:
        history = expected[member].history()
        if nodes[member].history()[:len(history)] != history:
            return ("history", member)
    if (owner, key) not in reachable(nodes):
        return ("unreachable",)
    return None


def _perform_given(execution, group, owner, key):
    """The nodes and the steps of the given execution, if the question for a witness can be asked."""
    nodes, done = perform_and_note(execution)
    if reclaims(execution):
        raise Reclaims("a step of the execution reclaims")
    if not is_group(group, len(nodes)):
        raise OutOfRange("group")
    if owner not in group:
        raise OutOfRange("owner")
    if key not in nodes[owner].heap():
        raise NoObject("the owner has no such object")
    return (nodes, done)


def _witness_by(execution, nodes, done, why):
    """The witness that the reason gives by which the last entry of a path is live."""
    reason, path = why
    owner, to, entry = path[-1]
    if reason == "returned":
        back = _number_of_return(nodes[to], owner, entry)
        return _received_at_the_end(execution, owner, _sending_step(done, to, owner, back))
    sending = _sending_step(done, owner, to, _number_of_last(nodes[owner], to, entry))
    if reason == "sent":
        return _received_at_the_end(execution, to, sending)
    # By "root" the object would be reachable in the execution itself, so to is a stranger.
    return _witness_by_stranger(execution, done, path[-1], sending)


def _witness_by_stranger(execution, done, name, sending):
    """The witness in which a stranger still has a root for an entry, last carried by the step sending."""
    owner, to, entry = name
    item = ("export", entry)
    received = [row for row in _accepted(done, to, owner) if item in row[1][_CARRIED]]
    if received:
        _, message, roots = received[-1]
        if not _has_told_gone(done, name, message[_NUMBER]):
            return _without_drop(execution, to, roots[message[_CARRIED].index(item)])
    return _with_receipt(execution, done, sending, item)


def _number_of_last(node, to, entry):
    """The number of the last message that carried an entry of the node."""
    return [last for receiver, kept, _, last in node.exports() if (receiver, kept) == (to, entry)][0]


def _number_of_return(node, owner, entry):
    """The number of the message by which the node sent the import back."""
    return [last for giver, held, last in node.returned() if (giver, held) == (owner, entry)][0]


def _sending_step(done, sender, receiver, number):
    """The index of the step that sent this message."""
    head = (sender, receiver, number)
    return [at for at, (_, event, given) in enumerate(done) if event[0] == "send" and given[:3] == head][0]


def _accepted(done, receiver, sender):
    """A tuple (index, message, new roots) for each step in which receiver accepted a message of sender."""
    rows = []
    for at, (node, event, given) in enumerate(done):
        if node == receiver and event[0] == "receive" and given is not None:
            message = done[event[1]][2]
            if message[_SENDER] == sender:
                rows.append((at, message, given))
    return rows


def _has_told_gone(done, name, number):
    """Whether the owner accepted from the holder that it saw this message and does not hold the entry."""
    owner, to, entry = name
    messages = [message for _, message, _ in _accepted(done, owner, to)]
    return any([message[_SEEN] >= number and entry not in message[_HELD] for message in messages])


def _received_at_the_end(execution, node, sending):
    """The execution and a further step, in which node receives the message of the step sending."""
    many, steps = execution
    return (many, steps + ((node, ("receive", sending)),))


def _without_drop(execution, node, root):
    """The execution without the step in which node drops the root."""
    many, steps = execution
    # There is this step: a root that is still there would reach the object in the execution itself.
    at = steps.index((node, ("drop", root)))
    return (many, steps[:at] + _with_later_steps(steps[at + 1:], at, -1))


def _with_receipt(execution, done, sending, item):
    """The execution in which the message of the step sending is received, too, for one root of the item."""
    many, steps = execution
    message = done[sending][2]
    sender, node, number = message[:3]
    later = [at for at, other, _ in _accepted(done, node, sender) if other[_NUMBER] > number]
    # A later message makes this one come too late, so it is received ahead of that one.
    at = min(later, default=len(steps))
    nodes, _ = perform_and_note((many, steps[:at]))
    roots = nodes[node].perform(("receive", message))
    kept = roots[message[_CARRIED].index(item)]
    added = [(node, ("receive", sending))]
    added.extend([(node, ("drop", root)) for root in roots if root != kept])
    behind = []
    for who, event in _with_later_steps(steps[at:], at, len(added)):
        behind.append((who, _with_later_roots(event, roots[0], len(roots)) if who == node else event))
    return (many, steps[:at] + tuple(added) + tuple(behind))


def _with_later_steps(steps, first, by):
    """The steps, where all indexes of steps from first on are greater by so many."""
    moved = []
    for node, event in steps:
        if event[0] == "receive":
            moved.append((node, ("receive", _later(event[1], first, by))))
        else:
            moved.append((node, event))
    return tuple(moved)


def _with_later_roots(event, first, by):
    """The event, where all numbers of roots from first on are greater by so many."""
    match event:
        case ("read", root, field):
            return ("read", _later(root, first, by), field)
        case ("write", root, field, None):
            return ("write", _later(root, first, by), field, None)
        case ("write", root, field, other):
            return ("write", _later(root, first, by), field, _later(other, first, by))
        case ("drop", root):
            return ("drop", _later(root, first, by))
        case ("send", to, roots):
            return ("send", to, tuple(_all_later(roots, first, by)))
        case _:
            return event


def _all_later(numbers, first, by):
    """The list of the numbers, where those from first on are greater by so many."""
    return [_later(number, first, by) for number in numbers]


def _later(number, first, by):
    """The number, or one greater by so many if it is first or behind it."""
    return number + by if number >= first else number
