"""Stand-ins for nodes, and short ways to write reports and references, for the tests."""


def obj(key):
    return ("object", key)


def imp(owner, entry):
    return ("import", owner, entry)


def make_report(node, sent, seen, roots=(), exports=(), returned=()):
    return (node, tuple(sent), tuple(seen), tuple(roots), tuple(exports), tuple(returned))


class StandIn:
    """Has what a node has, as it is given, and answers by the methods of the interface."""

    def __init__(self, nodes, number, heap=None, roots=(), exports=(), sent=None, seen=None, returned=()):
        self._nodes = nodes
        self._number = number
        self._heap = dict(heap or {})
        self._roots = list(roots)
        self._exports = list(exports)
        self._sent = tuple(sent or (0,) * nodes)
        self._seen = tuple(seen or (0,) * nodes)
        self._returned = list(returned)

    def number(self):
        return self._number

    def nodes(self):
        return self._nodes

    def heap(self):
        return dict(self._heap)

    def roots(self):
        return sorted(self._roots)

    def exports(self):
        return sorted(self._exports)

    def imports(self):
        references = [reference for _, reference in self._roots]
        references += [target for _, _, target, _ in self._exports]
        return list(self._led_imports(references))

    def sent(self):
        return self._sent

    def seen(self):
        return self._seen

    def returned(self):
        return sorted(self._returned)

    def report(self):
        roots = self._led_imports([reference for _, reference in self._roots])
        exports = [
            (to, entry, number, self._led_imports([target]))
            for to, entry, target, number in self.exports()
        ]
        return make_report(self._number, self._sent, self._seen, roots, exports, self.returned())

    def kept(self):
        references = [reference for _, reference in self._roots]
        references += [target for _, _, target, _ in self._exports]
        return sorted(one[1] for one in self._led(references) if one[0] == "object")

    def _led_imports(self, references):
        return tuple(sorted(one[1:] for one in self._led(references) if one[0] == "import"))

    def _led(self, references):
        led = set()
        for reference in references:
            self._follow(reference, led)
        return led

    def _follow(self, reference, led):
        if reference is None or reference in led:
            return
        led.add(reference)
        if reference[0] == "object":
            for field in self._heap[reference[1]]:
                self._follow(field, led)
