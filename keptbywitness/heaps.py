"""What the references of a node lead to, by way of the fields of its objects."""


def led_objects(heap, start):
    """The rising list of the ids of all objects to which the references of start refer or lead."""
    return sorted(_object_ids(_led(heap, start)))


def led_imports(heap, start):
    """The rising list of the imports (owner, entry) to which the references of start refer or lead."""
    return sorted([reference[1:] for reference in _led(heap, start) if reference[0] == "import"])


def shortest_path(heap, start, goal):
    """The least of the shortest lists of ids from an object of start by fields to goal, or None."""
    following = {key: _object_ids(fields) for key, fields in heap.items()}
    return least_path(following, _object_ids(start), [goal])


def least_path(following, starts, ends):
    """The least of the shortest lists that begin in starts, go on by following and end in ends, or None.

    Following is a dict that has, for each key, the list of the keys that may come next.
    """
    before = {}
    queue = []
    for key in sorted(starts):
        if key not in before:
            before[key] = None
            queue.append(key)
    at = 0
    # Keys with paths of one length lie in the queue in the order of their least
    # paths, so the first way found to a key, and the first end found, are the least.
    while at < len(queue):
        here = queue[at]
        if here in ends:
            return _path_to(before, here)
        for key in sorted(following[here]):
            if key not in before:
                before[key] = here
                queue.append(key)
        at += 1
    return None


def _path_to(before, last):
    """The list of keys that ends with last, where before has for each key the one ahead of it."""
    path = [last]
    while before[path[-1]] is not None:
        path.append(before[path[-1]])
    return path[::-1]


def _led(heap, start):
    """A dict of True with all references in start, and all to which they lead."""
    found = {}
    waiting = list(start)
    while waiting:
        reference = waiting.pop()
        if reference is not None and reference not in found:
            found[reference] = True
            if reference[0] == "object":
                waiting.extend(heap[reference[1]])
    return found


def _object_ids(references):
    """The ids of the objects among references, which may have None and repeat."""
    return [row[1] for row in references if row is not None and row[0] == "object"]
