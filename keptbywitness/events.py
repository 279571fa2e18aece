"""Events as text: the written form of each event, and the event of a text."""

from keptbywitness.groups import is_rising
from keptbywitness.nodes import CARRIED_MOST

_DIGITS_MOST = 5

# How many numbers follow the words behind which nothing is repeated.
_NUMBERS = {"make": 1, "read": 2, "write": 3, "drop": 1, "collect": 0, "report": 0}


def write_event(event):
    """The written form of an event."""
    word = event[0]
    if word == "receive":
        told = _words_of_message(event[1])
    elif word == "send":
        told = [event[1], *event[2]]
    elif word == "remove":
        told = [number for entry in event[1] for number in entry]
    else:
        told = ["none" if number is None else number for number in event[1:]]
    return " ".join([str(part) for part in [word, *told]])


def read_event(number, text):
    """The event of the node with this number that the text is the written form of, or None."""
    word, *rest = text.split(" ")
    if word == "receive":
        return _read_receive(number, rest)
    if word == "write" and rest[2:] == ["none"]:
        numbers = read_numbers(rest[:2])
        return None if numbers is None else ("write", *numbers, None)
    numbers = read_numbers(rest)
    if numbers is None:
        return None
    if word == "send":
        return _sending(numbers)
    if word == "remove":
        return _removal(numbers)
    if word in _NUMBERS and len(numbers) == _NUMBERS[word]:
        return (word, *numbers)
    return None


def read_numbers(words):
    """The list of the numbers that the words write, or None if one of them writes none."""
    if all([_is_number(word) for word in words]):
        return [int(word) for word in words]
    return None


def _is_number(word):
    """Whether the word writes a number of few digits, without a zero in front that is not needed."""
    if not word.isdecimal() or len(word) > _DIGITS_MOST:
        return False
    return str(int(word)) == word


def _words_of_message(message):
    """The list of the words and numbers of a message that is received."""
    sender, _, number, seen, held, carried = message
    told = [sender, number, seen, *held, "carried"]
    for kind, entry in carried:
        told.extend([kind, entry])
    return told


def _read_receive(number, words):
    """The event in which the node with this number receives the message of the words, or None."""
    if "carried" not in words:
        return None
    at = words.index("carried")
    numbers = read_numbers(words[:at])
    carried = _read_carried(words[at + 1:])
    if numbers is None or len(numbers) < 3 or carried is None:
        return None
    sender, sent, seen, *held = numbers
    if not is_rising(held):
        return None
    return ("receive", (sender, number, sent, seen, tuple(held), tuple(carried)))


def _read_carried(words):
    """The list of the items carried that the words write, or None."""
    kinds = words[::2]
    entries = read_numbers(words[1::2])
    if entries is None or len(entries) != len(kinds) or len(kinds) > CARRIED_MOST:
        return None
    if not all([kind in ("export", "return") for kind in kinds]):
        return None
    return list(zip(kinds, entries))


def _sending(numbers):
    """The event that sends to the first number the roots of the others, or None."""
    if not 1 <= len(numbers) <= 1 + CARRIED_MOST:
        return None
    return ("send", numbers[0], tuple(numbers[1:]))


def _removal(numbers):
    """The event that removes the entries whose numbers these are, two for each, or None."""
    if len(numbers) & 1 == 1:
        return None
    entries = list(zip(numbers[::2], numbers[1::2]))
    return ("remove", tuple(entries)) if is_rising(entries) else None
