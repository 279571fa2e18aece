"""Points 19 to 22: witnesses that are found, and faults of those that are offered."""

import random
import unittest

from keptbywitness.errors import Impossible, KeepError, NoObject, OutOfRange, Reclaims
from keptbywitness.executions import perform_all
from keptbywitness.groups import kept_by, reachable
from keptbywitness.nodes import Node
from keptbywitness.witnesses import check_witness, find_witness
from draws import Draw
from models import groups_of, reached

MAKE = (0, ("make", 0))
SEND = (0, ("send", 1, (0,)))
DROP = (0, ("drop", 0))
# 1 gets the object of 0 and lets it go, without telling.
LET_GO = (MAKE, SEND, (1, ("receive", 1)), DROP, (1, ("drop", 0)))


def fault_by_words(execution, group, owner, key, offered):
    """The fault of an offered witness, by nodes of its own, after points 19 and 22."""
    if offered[0] != execution[0]:
        return ("nodes",)
    ends = []
    for many, steps in (execution, offered):
        nodes, given = [Node(many, number) for number in range(many)], []
        for at, (number, event) in enumerate(steps):
            try:
                if event[0] in ("remove", "reclaim") or number not in range(many):
                    return ("step", at)
                if event[0] == "receive":
                    sent = event[1] in range(at) and steps[event[1]][1][0] == "send"
                    if not sent or steps[event[1]][1][1] != number:
                        return ("step", at)
                    event = ("receive", given[event[1]])
                given.append(nodes[number].perform(event))
            except KeepError:
                return ("step", at)
        ends.append(nodes)
    for member in group:
        history = ends[0][member].history()
        if ends[1][member].history()[:len(history)] != history:
            return ("history", member)
    return None if (owner, "object", key) in reached(ends[1]) else ("unreachable",)


class WitnessCase(unittest.TestCase):
    def finds(self, execution, group, owner=0, key=0):
        """The witness that is found; it is one by the words of the document, too."""
        witness = find_witness(execution, group, owner, key)
        self.assertIsNotNone(witness, (execution, group))
        self.assertIsNone(check_witness(execution, group, owner, key, witness), (execution, group, witness))
        self.assertIsNone(fault_by_words(execution, group, owner, key, witness), (execution, group, witness))
        self.assertIn((owner, key), kept_by(perform_all(execution), group))
        self.assertIs(type(witness), tuple)
        self.assertIs(type(witness[1]), tuple)
        return witness

    def finds_none(self, execution, group, owner=0, key=0):
        self.assertIsNone(find_witness(execution, group, owner, key), (execution, group))
        self.assertNotIn((owner, key), kept_by(perform_all(execution), group))

    def finds_by_a_change(self, execution, group, owner=0, key=0):
        """The execution itself is no witness, so that another one has to be found."""
        self.assertEqual(check_witness(execution, group, owner, key, execution), ("unreachable",))
        witness = self.finds(execution, group, owner, key)
        self.assertNotEqual(witness, execution)
        return witness


class FoundTest(WitnessCase):
    def test_a_root_of_the_owner(self):
        execution = (2, (MAKE, (0, ("make", 1)), (0, ("write", 1, 0, 0)), DROP))
        for group in ((0,), (0, 1)):
            self.finds(execution, group, 0, 0)
            self.finds(execution, group, 0, 1)

    def test_nothing_at_all(self):
        for group in ((0,), (0, 1), (0, 2), (0, 1, 2)):
            self.finds_none((3, (MAKE, DROP)), group)

    def test_a_root_of_another_member_or_of_a_stranger(self):
        execution = (3, (MAKE, SEND, (1, ("receive", 1)), DROP))
        for group in ((0,), (0, 1), (0, 2), (0, 1, 2)):
            self.finds(execution, group)

    def test_by_way_of_a_third_node(self):
        execution = (3, (MAKE, SEND, (1, ("receive", 1)), (1, ("send", 2, (0,))), (2, ("receive", 3)), DROP, (1, ("drop", 0))))
        for group in ((0,), (0, 1), (0, 2), (0, 1, 2)):
            self.finds(execution, group)
        behind = (*execution[1], (2, ("drop", 0)))
        for group in ((0,), (0, 1), (0, 2)):
            self.finds_by_a_change((3, behind), group)
        self.finds_none((3, behind), (0, 1, 2))

    def test_sent(self):
        lost = (MAKE, SEND, DROP)
        for group in ((0,), (0, 1), (0, 2), (0, 1, 2)):
            self.finds_by_a_change((3, lost), group)
        # What 1 accepted before does not matter, what it accepted later does.
        self.finds_by_a_change((2, (MAKE, (0, ("send", 1, ())), (0, ("send", 1, (0,))), DROP, (1, ("receive", 1)))), (0, 1))
        self.finds_none((2, (MAKE, (0, ("send", 1, (0,))), (0, ("send", 1, ())), DROP, (1, ("receive", 2)))), (0, 1))

    def test_sent_again(self):
        steps = (*LET_GO[:3], (1, ("drop", 0)), SEND, DROP)
        self.finds_by_a_change((2, steps), (0, 1))
        self.finds_none((2, (*steps, (1, ("receive", 4)), (1, ("drop", 1)))), (0, 1))

    def test_returned(self):
        steps = (*LET_GO[:3], (1, ("send", 0, (0,))), DROP, (1, ("drop", 0)))
        for group in ((0,), (0, 1), (0, 2), (0, 1, 2)):
            self.finds_by_a_change((3, steps), group)
        self.finds((3, (*steps, (0, ("receive", 3)))), (0, 1))
        self.finds_none((3, (*steps, (0, ("receive", 3)), (0, ("drop", 1)))), (0, 1))

    def test_returned_by_the_last_of_several_messages(self):
        steps = (*LET_GO[:3], (1, ("send", 0, (0,))), (1, ("send", 0, (0, 0))), DROP, (1, ("drop", 0)))
        self.finds_by_a_change((2, (*steps, (0, ("receive", 3)), (0, ("drop", 1)))), (0, 1))
        self.finds_none((2, (*steps, (0, ("receive", 4)), (0, ("drop", 1)), (0, ("drop", 2)))), (0, 1))

    def test_a_ring_over_two_nodes(self):
        steps = (
            (0, ("make", 1)), (1, ("make", 1)), (0, ("send", 1, (0,))), (1, ("send", 0, (0,))), (0, ("receive", 3)),
            (1, ("receive", 2)), (0, ("write", 0, 0, 1)), (1, ("write", 0, 0, 1)), *((at, ("drop", root)) for at in (0, 1) for root in (0, 1)),
        )
        for owner in (0, 1):
            self.finds_by_a_change((2, steps), (owner,), owner)
            self.finds_by_a_change((3, steps), tuple(sorted((owner, 2))), owner)
            self.finds_none((2, steps), (0, 1), owner)
            self.finds_none((3, steps), (0, 1, 2), owner)
            self.finds((2, steps[:-1]), (0, 1), owner)


class StrangerTest(WitnessCase):
    """The member 0 (sometimes with 2) has an entry for 1, of which it cannot know enough."""

    def test_the_drop_is_left_out(self):
        witness = self.finds_by_a_change((2, LET_GO), (0,))
        self.assertEqual(witness, (2, LET_GO[:-1]))
        self.finds_none((2, LET_GO), (0, 1))

    def test_steps_behind_the_drop_follow(self):
        steps = (
            *LET_GO, (1, ("make", 1)), (1, ("collect",)), (1, ("send", 2, (1,))), (2, ("receive", 7)), (2, ("send", 0, (0,))),
            (1, ("write", 1, 0, 1)), (0, ("receive", 9)), (0, ("send", 1, (1,))), (1, ("receive", 12)), (1, ("drop", 2)),
        )
        witness = self.finds_by_a_change((3, steps), (0,))
        self.assertEqual(len(witness[1]), len(steps) - 1)
        self.finds_by_a_change((3, steps), (0, 2))
        self.finds_none((3, steps), (0, 1))
        self.finds_none((3, steps), (0, 1, 2))

    def test_of_two_roots_of_one_message_the_first_stays(self):
        steps = (MAKE, (0, ("send", 1, (0, 0))), (1, ("receive", 1)), DROP, (1, ("drop", 1)), (1, ("drop", 0)))
        self.finds_by_a_change((2, steps), (0,))

    def test_the_last_message_that_was_accepted_counts(self):
        # 1 tells between the two that it let the object go.
        steps = (
            MAKE, SEND, (1, ("receive", 1)), (1, ("drop", 0)), (1, ("collect",)), (1, ("send", 0, ())), SEND,
            (0, ("receive", 5)), (1, ("receive", 6)), (1, ("drop", 1)), DROP,
        )
        self.finds_by_a_change((2, steps), (0,))
        told = (*steps, (1, ("collect",)), (1, ("send", 0, ())), (0, ("receive", 12)))
        self.finds_none((2, told), (0,))

    def test_it_told_that_it_still_holds_the_entry(self):
        # The root is gone, but the import was not yet collected when 1 told.
        steps = (*LET_GO, (1, ("send", 0, ())), (0, ("receive", 5)), (1, ("collect",)))
        witness = self.finds_by_a_change((2, steps), (0,))
        self.assertEqual(len(witness[1]), len(steps) - 1)

    def test_never_received(self):
        steps = (MAKE, SEND, DROP)
        self.assertEqual(self.finds_by_a_change((2, steps), (0,)), (2, (*steps, (1, ("receive", 1)))))

    def test_never_received_with_other_items(self):
        steps = (MAKE, (0, ("make", 0)), (0, ("send", 1, (1, 0, 1, 0))), DROP, (0, ("drop", 1)))
        for key in (0, 1):
            witness = self.finds_by_a_change((2, steps), (0,), 0, key)
            nodes = perform_all(witness)
            self.assertEqual(len(nodes[1].roots()), 1)
            self.assertEqual(reachable(nodes), [(0, key)])

    def test_received_ahead_of_a_later_message(self):
        # 1 accepted only the second message; what it did behind that moves by two roots and two steps.
        steps = (
            MAKE, (0, ("make", 0)), (0, ("send", 1, (1, 0))), (0, ("make", 1)), (0, ("send", 1, (2,))), (1, ("make", 2)),
            (1, ("receive", 4)), (1, ("write", 0, 1, 1)), (1, ("read", 0, 1)), (1, ("write", 0, 0, 0)), (1, ("write", 0, 0, None)),
            (1, ("send", 2, (2, 0))), (1, ("drop", 1)), (1, ("make", 1)), (1, ("send", 2, (3,))), (2, ("receive", 11)),
            (2, ("receive", 14)), (2, ("send", 1, (1,))), (1, ("receive", 17)), (1, ("read", 0, 1)), DROP, (0, ("drop", 1)),
        )
        for key in (0, 1):
            for group in ((0,), (0, 2)):
                witness = self.finds_by_a_change((3, steps), group, 0, key)
                self.assertEqual(len(witness[1]), len(steps) + 2)
                nodes, before = perform_all(witness), perform_all((3, steps))
                self.assertEqual(nodes[2].history(), before[2].history())
                self.assertEqual(nodes[1].heap(), before[1].heap())
                self.assertEqual(len(nodes[1].roots()), len(before[1].roots()) + 1)
        for group in ((0, 1), (0, 1, 2)):
            self.finds_none((3, steps), group)

    def test_lost_after_the_stranger_told_that_an_earlier_one_is_gone(self):
        # 1 accepted and let go what the first message carried, and 0 knows; the second one is lost.
        told = (*LET_GO[:3], (1, ("drop", 0)), (1, ("collect",)), (1, ("send", 0, ())), SEND, DROP, (0, ("receive", 5)))
        witness = self.finds_by_a_change((2, told), (0,))
        self.assertEqual(witness, (2, (*told, (1, ("receive", 6)))))
        later = (*told, (0, ("send", 1, ())), (1, ("receive", 9)), (1, ("make", 0)), (1, ("drop", 1)))
        self.finds_by_a_change((2, later), (0,))
        # As soon as 0 hears of a later one, the entry goes.
        self.finds_none((2, (*later, (1, ("send", 0, ())), (0, ("receive", 13)))), (0,))

    def test_entries_of_a_row_that_ends_at_a_stranger(self):
        # 0's object is held by 1 for 2 alone; 2 for 3 alone; and 3 let it go.
        steps = (
            MAKE, SEND, (1, ("receive", 1)), (1, ("send", 2, (0,))), (2, ("receive", 3)), (2, ("send", 3, (0,))),
            (3, ("receive", 5)), DROP, (1, ("drop", 0)), (2, ("drop", 0)), (3, ("drop", 0)),
        )
        for group in ((0,), (0, 1), (0, 2), (0, 3), (0, 1, 2), (0, 1, 3), (0, 2, 3)):
            self.finds_by_a_change((4, steps), group)
        self.finds_none((4, steps), (0, 1, 2, 3))
        # The same with messages that never came.
        for cut in (2, 4, 6):
            self.finds((4, (*steps[:cut], DROP)), (0, 1, 2))

    def test_four_hundred_steps(self):
        # The witness is longer than an execution may be that perform_all takes.
        first = (MAKE, (0, ("make", 0)), (0, ("make", 0)), (0, ("make", 0)), (0, ("send", 1, (0, 1, 2, 3))))
        filling = ((0, ("send", 2, ())),) * 391
        steps = (*first, *filling, *((0, ("drop", root)) for root in range(4)))
        self.assertEqual(len(steps), 400)
        for key in range(4):
            witness = find_witness((3, steps), (0,), 0, key)
            self.assertEqual(len(witness[1]), 404)
            self.assertIsNone(check_witness((3, steps), (0,), 0, key, witness))
        self.finds((3, steps[:399]), (0, 1), 0, 3)
        with self.assertRaises(OutOfRange) as caught:
            find_witness((3, (*steps, MAKE)), (0,), 0, 0)
        self.assertEqual(caught.exception.name, "steps")


class FaultTest(WitnessCase):
    GIVEN = (3, LET_GO)
    WITNESS = (3, LET_GO[:-1])

    def fault(self, offered, fault, group=(0, 2), key=0):
        self.assertEqual(check_witness(self.GIVEN, group, 0, key, offered), fault)

    def test_witnesses(self):
        self.fault(self.WITNESS, None)
        self.fault((3, (*LET_GO, SEND, (1, ("receive", 1)))), ("step", 5))
        self.fault((3, (*LET_GO[:-1], (0, ("make", 0)), (2, ("collect",)), (1, ("drop", 0)), (0, ("send", 1, (1,))))), ("unreachable",))
        self.fault((3, (*LET_GO[:-1], (0, ("make", 0)), (2, ("collect",)), (1, ("send", 2, (0,))))), None)

    def test_nodes(self):
        for nodes in (2, 4, 1, 5, 0):
            self.fault((nodes, LET_GO[:-1]), ("nodes",))
            self.fault((nodes, ((9, ("drop", 9)),)), ("nodes",))
            self.fault((nodes, ()), ("nodes",))

    def test_steps(self):
        good = LET_GO[:-1]
        for step in (
            (0, ("drop", 0)), (3, ("make", 0)), (-1, ("make", 0)), (1, ("receive", 0)), (1, ("receive", 4)), (2, ("receive", 1)),
            (1, ("remove", ())), (0, ("remove", ((1, 0),))), (0, ("send", 0, ())), (1, ("read", 0, 0)),
        ):
            self.fault((3, (*good, step)), ("step", 4))
            self.fault((3, (step, *good)), ("step", 0))
            self.fault((3, (*good, step, step, (0, ("reclaim", ())))), ("step", 4))

    def test_steps_that_reclaim(self):
        good = (*LET_GO[:-1], (2, ("report",)))
        self.fault((3, good), None, (0,))
        self.fault((3, (*good, (2, ("reclaim", (4,))))), ("step", 5))
        self.fault((3, (*good, (0, ("reclaim", ())))), ("step", 5))
        self.fault((3, (*good, (2, ("reclaim", (4,))), (0, ("drop", 5)))), ("step", 5))
        self.fault((3, (*good, (0, ("drop", 5)), (2, ("reclaim", (4,))))), ("step", 5))
        self.fault((3, ((0, ("report",)), (0, ("reclaim", (0,))), *good)), ("step", 1))

    def test_histories(self):
        self.fault((3, ()), ("history", 0))
        self.fault((3, LET_GO[:3]), ("history", 0))
        self.fault((3, ((0, ("make", 1)), *LET_GO[1:4])), ("history", 0))
        self.fault((3, (MAKE, DROP)), ("history", 0))
        # An event more is one too many if it does not stand behind all others.
        self.fault((3, (MAKE, (0, ("collect",)), (0, ("send", 1, (0,))), DROP)), ("history", 0))
        self.fault((3, (MAKE, SEND, DROP, (0, ("collect",)), (1, ("receive", 1)))), None)
        self.fault((3, (*LET_GO[:-1], (2, ("make", 0)))), None, (0, 2))
        self.fault(self.WITNESS, ("history", 1), (0, 1))
        self.fault((3, LET_GO[:2]), ("history", 0), (0, 1))
        self.fault(self.WITNESS, None, (0,))

    def test_messages_of_a_history(self):
        # 1 is a member here; what 0 sends must be the same for it, although 0 may do what it wants.
        given = (2, ((1, ("make", 0)), (1, ("send", 0, (0,))), (0, ("receive", 1)), (0, ("send", 1, ())), (1, ("receive", 3)), (1, ("drop", 0))))
        self.assertEqual(check_witness(given, (1,), 1, 0, given), None)
        other = ((1, ("make", 0)), (1, ("send", 0, (0,))), (0, ("send", 1, ())), (1, ("receive", 2)), (1, ("drop", 0)))
        self.assertEqual(check_witness(given, (1,), 1, 0, (2, other)), ("history", 1))
        dropped = (*given[1][:3], (0, ("drop", 0)), (0, ("send", 1, ())), (1, ("receive", 4)), (1, ("drop", 0)))
        self.assertEqual(check_witness(given, (1,), 1, 0, (2, dropped)), ("unreachable",))

    def test_unreachable(self):
        self.fault(self.GIVEN, ("unreachable",))
        self.fault(self.GIVEN, ("unreachable",), (0, 1))
        self.fault((3, (*LET_GO[:-1], (1, ("drop", 0)))), ("unreachable",))
        self.fault((3, (*LET_GO, (1, ("make", 0)), (0, ("make", 0)))), ("unreachable",))

    def test_lengths_that_may_be_offered(self):
        more = ((2, ("collect",)),)
        for many, fault in ((399, None), (400, None), (401, None), (420, None)):
            self.fault((3, LET_GO[:-1] + more * (many - 4)), fault)
        self.fault((3, LET_GO[:-1] + more * 415 + ((2, ("drop", 0)),)), ("step", 419))
        for offered in ((3, LET_GO[:-1] + more * 417), (2, more * 421), (3, more * 1000)):
            with self.assertRaises(OutOfRange) as caught:
                check_witness(self.GIVEN, (0,), 0, 0, offered)
            self.assertEqual(caught.exception.name, "offered")


class ErrorsTest(unittest.TestCase):
    def raises(self, error, execution, group, owner, key, **fields):
        """Both functions raise this error, whatever is offered."""
        calls = [lambda: find_witness(execution, group, owner, key)]
        for offered in (execution, (7, ()), (3, (MAKE,) * 421)):
            calls.append(lambda offered=offered: check_witness(execution, group, owner, key, offered))
        for call in calls:
            with self.assertRaises(KeepError) as caught:
                call()
            self.assertIs(type(caught.exception), error)
            self.assertEqual(vars(caught.exception), fields)

    def test_each_error_ahead_of_all_behind_it(self):
        # From row to row one thing more is right.
        reclaim = (0, ("reclaim", (2,)))
        reports = (MAKE, DROP, (0, ("report",)), reclaim)
        self.raises(OutOfRange, (5, (reclaim,) * 401), (), 9, 9, name="nodes")
        self.raises(OutOfRange, (1, reports), (), 9, 9, name="nodes")
        self.raises(OutOfRange, (3, (reclaim,) * 401), (), 9, 9, name="steps")
        self.raises(Impossible, (3, (*reports, DROP)), (), 9, 9, step=4)
        self.raises(Impossible, (3, (reclaim,)), (), 9, 9, step=0)
        self.raises(Reclaims, (3, reports), (), 9, 9)
        self.raises(OutOfRange, (3, reports[:3]), (), 9, 9, name="group")
        self.raises(OutOfRange, (3, reports[:3]), (0, 1), 9, 9, name="owner")
        self.raises(NoObject, (3, reports[:3]), (0, 1), 0, 9)

    def test_groups_owners_and_objects(self):
        execution = (3, (MAKE, (0, ("make", 0)), (0, ("drop", 1)), (0, ("collect",)), (2, ("make", 0))))
        for group in ((), (1, 0), (0, 0), (3,), (0, 3), (-1, 0), (0, 1, 2, 3), (0, 2, 1), (0, 1, 1)):
            self.raises(OutOfRange, execution, group, 0, 0, name="group")
        for group, owner in (((0, 1), 2), ((1, 2), 0), ((0,), -1), ((0, 1, 2), 3)):
            self.raises(OutOfRange, execution, group, owner, 0, name="owner")
        for owner, key in ((0, 1), (0, 2), (0, -1), (1, 0), (2, 1)):
            self.raises(NoObject, execution, (0, 1, 2), owner, key)
        self.assertIsNotNone(find_witness(execution, (0, 1, 2), 0, 0))
        self.assertIsNotNone(find_witness(execution, (0, 1, 2), 2, 0))

    def test_offered_behind_all_others(self):
        execution = (3, (MAKE,))
        with self.assertRaises(OutOfRange) as caught:
            check_witness(execution, (0,), 0, 0, (3, (MAKE,) * 421))
        self.assertEqual(caught.exception.name, "offered")


class DrawnTest(WitnessCase):
    def test_witnesses_are_found_exactly_for_what_is_kept(self):
        chance = random.Random(20)
        found = {"itself": 0, "longer by one": 0, "longer": 0, "shorter": 0, "none": 0}
        for _ in range(300):
            execution = Draw(chance, chance.choice((2, 3, 3, 4))).add(chance.randint(10, 110))
            nodes = perform_all(execution)
            for group in groups_of(nodes):
                kept = kept_by(nodes, group)
                for owner in group:
                    for key in nodes[owner].heap():
                        witness = find_witness(execution, group, owner, key)
                        self.assertEqual(witness is not None, (owner, key) in kept, (execution, group, owner, key))
                        found[self.kind_of(execution, witness)] += 1
                        if witness is not None:
                            self.assertIsNone(check_witness(execution, group, owner, key, witness))
                            self.assertIsNone(fault_by_words(execution, group, owner, key, witness))
        for kind, many in found.items():
            self.assertGreater(many, 30, found)

    def kind_of(self, execution, witness):
        if witness is None:
            return "none"
        longer = len(witness[1]) - len(execution[1])
        kinds = {-1: "shorter", 0: "itself", 1: "longer by one"}
        self.assertEqual(longer == 0, witness == execution)
        return kinds.get(longer, "longer")

    def test_what_is_not_kept_has_no_witness(self):
        chance = random.Random(22)
        faults = {}
        for _ in range(60):
            draw = Draw(chance, chance.randint(2, 4))
            execution = draw.add(chance.randint(10, 50))
            nodes = perform_all(execution)
            for _ in range(6):
                offered = self.change(chance, execution)
                for group in groups_of(nodes):
                    kept = kept_by(nodes, group)
                    for owner in group:
                        for key in nodes[owner].heap():
                            fault = check_witness(execution, group, owner, key, offered)
                            self.assertEqual(fault, fault_by_words(execution, group, owner, key, offered))
                            if (owner, key) not in kept:
                                self.assertIsNotNone(fault, (execution, group, owner, key, offered))
                                faults[fault[0]] = faults.get(fault[0], 0) + 1
        self.assertEqual(sorted(faults), ["history", "step", "unreachable"])

    def change(self, chance, execution):
        """The execution with other steps behind it, or without some drops of a node, or with a message received again."""
        many, steps = execution
        kind = chance.randrange(4)
        if kind == 0:
            who = chance.randrange(many)
            left = [at for at, (node, event) in enumerate(steps) if node != who or event[0] != "drop" or chance.random() < 0.5]
            places = {at: place for place, at in enumerate(left)}
            return (many, tuple(
                (node, ("receive", places[event[1]]) if event[0] == "receive" else event)
                for node, event in (steps[at] for at in left)
            ))
        sends = [(event[1], ("receive", at)) for at, (_, event) in enumerate(steps) if event[0] == "send"]
        if kind == 1 and sends:
            return (many, steps + tuple(chance.choices(sends, k=3)))
        if kind == 2:
            return (many, (*steps, (chance.randrange(many), ("drop", chance.randint(0, 20)))))
        more = Draw(chance, many)
        for number, event in steps:
            more.try_step(number, event)
        return more.add(chance.randint(1, 30))


if __name__ == "__main__":
    unittest.main()
