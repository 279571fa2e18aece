"""Executions: steps that nodes perform one after another, from new nodes on."""

from keptbywitness.errors import Impossible, KeepError, NoLetter, NoReport, OutOfRange
from keptbywitness.nodes import Node, is_network_size

STEPS_MOST = 400


def first_fault(execution):
    """The index of the first step that is not possible, or None."""
    _, _, fault = perform_possible(execution)
    return fault


def perform_all(execution):
    """The list of the nodes at the end of an execution."""
    nodes, _ = perform_and_note(execution)
    return nodes


def reclaims(execution):
    """Whether a step of an execution reclaims."""
    return any([event[0] == "reclaim" for _, event in execution[1]])


def perform_and_note(execution):
    """The nodes at the end, and for each step the tuple (node, event, what it returned)."""
    if not is_network_size(execution[0]):
        raise OutOfRange("nodes")
    if len(execution[1]) > STEPS_MOST:
        raise OutOfRange("steps")
    nodes, done, fault = perform_possible(execution)
    if fault is not None:
        raise Impossible(fault)
    return (nodes, done)


def perform_possible(execution):
    """As perform_and_note, up to the first step that is not possible; and its index, or None."""
    nodes = _new_nodes(execution[0])
    done = []
    for step in execution[1]:
        try:
            check_step(len(nodes), step)
            given = perform_step(nodes, done, step)
        except KeepError:
            return (nodes, done, len(done))
        done.append((step[0], step[1], given))
    return (nodes, done, None)


def check_step(many, step):
    """Raises OutOfRange if a step is of none of so many nodes, or has an event that is none of a step."""
    number, event = step
    if not 0 <= number < many:
        raise OutOfRange("node")
    if event[0] == "remove":
        raise OutOfRange("event")


def perform_step(nodes, done, step):
    """What a checked step returns that nodes perform after the steps of done, tuples as in perform_and_note."""
    number, event = step
    if event[0] == "receive":
        return nodes[number].perform(("receive", _message_for(number, done, event[1])))
    if event[0] == "reclaim":
        return nodes[number].reclaim(_reports_of(done, event[1]))
    return nodes[number].perform(event)


def _new_nodes(many):
    """The list of so many new nodes; it is empty if no network has so many."""
    if not is_network_size(many):
        return []
    return [Node(many, number) for number in range(many)]


def _message_for(number, done, at):
    """The message for this node that the step with index at sent."""
    if not 0 <= at < len(done):
        raise NoLetter("there is no such earlier step")
    _, event, given = done[at]
    if event[0] != "send" or event[1] != number:
        raise NoLetter("the step sent no message to this node")
    return given


def _reports_of(done, indexes):
    """The list of the reports that the steps with these indexes made."""
    reports = []
    before = -1
    for at in indexes:
        if not 0 <= at < len(done) or done[at][1][0] != "report":
            raise NoReport("there is no such earlier step that made a report")
        if done[at][0] <= before:
            raise NoReport("the nodes of the reports do not rise")
        before = done[at][0]
        reports.append(done[at][2])
    return reports
