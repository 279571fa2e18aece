"""Point 10 and the interface of heaps.py."""

import copy
import itertools
import random
import unittest

from keptbywitness.heaps import led_imports, led_objects, shortest_path
from standins import imp, obj

# 0 and 1 form a ring with a tail to 2; 3 refers to itself; 4 is led to by none but 5.
HEAP = {
    0: (obj(1), None),
    1: (obj(0), obj(2), imp(1, 4)),
    2: (),
    3: (obj(3), imp(2, 0)),
    4: (imp(1, 4), imp(0, 7)),
    5: (obj(4), None, None, obj(2)),
}


def paths_from(heap, path):
    """All paths without a repeated id that go on from path."""
    yield path
    for field in heap[path[-1]]:
        if field is not None and field[0] == "object" and field[1] not in path:
            yield from paths_from(heap, path + [field[1]])


def least_by_trying(heap, start, goal):
    firsts = {one[1] for one in start if one is not None and one[0] == "object"}
    ends = [path for first in firsts for path in paths_from(heap, [first]) if path[-1] == goal]
    return min(ends, key=lambda path: (len(path), path), default=None)


def random_heap(chance, many):
    choices = [None, imp(1, 0), imp(0, 3), imp(2, 1)] + [obj(key) for key in range(many)]
    return {key: tuple(chance.choices(choices, k=chance.randint(0, 4))) for key in range(many)}


class LedTest(unittest.TestCase):
    def test_nothing_leads_to_nothing(self):
        for start in ([], [None], [None, None]):
            self.assertEqual(led_objects(HEAP, start), [])
            self.assertEqual(led_imports(HEAP, start), [])
            self.assertEqual(led_objects({}, start), [])
            self.assertEqual(led_imports({}, start), [])

    def test_object_without_fields(self):
        self.assertEqual(led_objects(HEAP, [obj(2)]), [2])
        self.assertEqual(led_imports(HEAP, [obj(2)]), [])

    def test_ring_with_tail(self):
        for first in (0, 1):
            self.assertEqual(led_objects(HEAP, [obj(first)]), [0, 1, 2])
            self.assertEqual(led_imports(HEAP, [obj(first)]), [(1, 4)])

    def test_object_that_refers_to_itself(self):
        self.assertEqual(led_objects(HEAP, [obj(3)]), [3])
        self.assertEqual(led_imports(HEAP, [obj(3)]), [(2, 0)])

    def test_imports_in_the_list_itself(self):
        start = [imp(3, 0), imp(0, 9), imp(3, 0)]
        self.assertEqual(led_objects(HEAP, start), [])
        self.assertEqual(led_imports(HEAP, start), [(0, 9), (3, 0)])

    def test_several_references_none_and_repeats(self):
        start = [obj(5), None, imp(1, 4), obj(3), obj(5)]
        self.assertEqual(led_objects(HEAP, start), [2, 3, 4, 5])
        self.assertEqual(led_imports(HEAP, start), [(0, 7), (1, 4), (2, 0)])

    def test_results_rise_by_number(self):
        heap = {12: (obj(9), obj(100)), 9: (imp(2, 10), imp(2, 9)), 100: (imp(0, 11),)}
        self.assertEqual(led_objects(heap, [obj(12)]), [9, 12, 100])
        self.assertEqual(led_imports(heap, [obj(12)]), [(0, 11), (2, 9), (2, 10)])

    def test_long_chain(self):
        heap = {key: (obj(key + 1),) for key in range(5000)}
        heap[5000] = (imp(1, 1),)
        self.assertEqual(led_objects(heap, [obj(0)]), list(range(5001)))
        self.assertEqual(led_imports(heap, [obj(0)]), [(1, 1)])
        self.assertEqual(shortest_path(heap, [obj(0)], 5000), list(range(5001)))


class ShortestPathTest(unittest.TestCase):
    def test_goal_is_a_start(self):
        self.assertEqual(shortest_path(HEAP, [obj(1)], 1), [1])
        self.assertEqual(shortest_path(HEAP, [obj(0), obj(1)], 1), [1])

    def test_through_fields(self):
        self.assertEqual(shortest_path(HEAP, [obj(0)], 2), [0, 1, 2])
        self.assertEqual(shortest_path(HEAP, [obj(1)], 0), [1, 0])

    def test_shorter_before_less(self):
        heap = {0: (obj(1),), 1: (obj(3),), 2: (obj(3),), 3: ()}
        self.assertEqual(shortest_path(heap, [obj(0), obj(2)], 3), [2, 3])

    def test_least_of_several_by_starts(self):
        heap = {0: (obj(9),), 1: (obj(9),), 2: (obj(9),), 9: ()}
        self.assertEqual(shortest_path(heap, [obj(2), obj(1), obj(0)], 9), [0, 9])
        self.assertEqual(shortest_path(heap, [obj(2), obj(1)], 9), [1, 9])

    def test_least_of_several_by_fields(self):
        heap = {0: (obj(4), obj(3), obj(2)), 2: (obj(8),), 3: (obj(9),), 4: (obj(9),), 8: (), 9: ()}
        self.assertEqual(shortest_path(heap, [obj(0)], 9), [0, 3, 9])

    def test_least_looks_at_the_first_item_first(self):
        # By way of 5 the second item is less, but 1 < 5 decides.
        heap = {1: (obj(7),), 5: (obj(2),), 7: (obj(9),), 2: (obj(9),), 9: ()}
        self.assertEqual(shortest_path(heap, [obj(5), obj(1)], 9), [1, 7, 9])

    def test_least_is_by_number(self):
        heap = {0: (obj(10), obj(9)), 9: (obj(11),), 10: (obj(11),), 11: ()}
        self.assertEqual(shortest_path(heap, [obj(0)], 11), [0, 9, 11])

    def test_ring_is_not_gone_round(self):
        heap = {0: (obj(1),), 1: (obj(2),), 2: (obj(0), obj(3)), 3: (obj(3),)}
        self.assertEqual(shortest_path(heap, [obj(0)], 3), [0, 1, 2, 3])
        self.assertEqual(shortest_path(heap, [obj(0)], 0), [0])

    def test_none_and_imports_are_passed_over(self):
        self.assertEqual(shortest_path(HEAP, [None, imp(1, 2), obj(5), None], 2), [5, 2])
        # The numbers of an import are no ids.
        heap = {0: (imp(1, 1), None), 1: ()}
        self.assertIsNone(shortest_path(heap, [obj(0)], 1))
        self.assertIsNone(shortest_path(heap, [imp(1, 1), imp(0, 0)], 1))

    def test_no_path(self):
        self.assertIsNone(shortest_path(HEAP, [obj(0)], 3))
        self.assertIsNone(shortest_path(HEAP, [obj(2)], 0))
        self.assertIsNone(shortest_path(HEAP, [obj(0)], 77))
        self.assertIsNone(shortest_path(HEAP, [], 0))
        self.assertIsNone(shortest_path(HEAP, [None], 0))
        self.assertIsNone(shortest_path({}, [], 0))


class AllHeapsTest(unittest.TestCase):
    def test_against_trying_all_paths(self):
        chance = random.Random(10)
        for _ in range(300):
            many = chance.randint(1, 6)
            heap = random_heap(chance, many)
            start = chance.choices([None, imp(1, 5)] + [obj(key) for key in range(many)], k=chance.randint(0, 3))
            found = [key for key in range(many) if least_by_trying(heap, start, key) is not None]
            self.assertEqual(led_objects(heap, start), found)
            for key in range(many):
                self.assertEqual(shortest_path(heap, start, key), least_by_trying(heap, start, key))
            references = itertools.chain(start, *[heap[key] for key in found])
            imports = {one[1:] for one in references if one is not None and one[0] == "import"}
            self.assertEqual(led_imports(heap, start), sorted(imports))

    def test_arguments_are_unchanged_and_lists_new(self):
        start = [obj(5), None, imp(1, 4), obj(0)]
        heap = dict(HEAP)
        before = copy.deepcopy((heap, start))
        for call in (led_objects, led_imports, lambda *rest: shortest_path(*rest, 2)):
            first = call(heap, start)
            expected = list(first)
            first.append("changed")
            second = call(heap, start)
            self.assertEqual(second, expected)
            self.assertIs(type(second), list)
            self.assertIsNot(first, second)
            self.assertEqual((heap, start), before)


if __name__ == "__main__":
    unittest.main()
