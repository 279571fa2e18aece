"""Point 26: the written form of each event, and which texts are one."""

import random
import re
import unittest

from keptbywitness.events import read_event, write_event
from draws import Draw, draw_wrong_event

SIGNS = "0123456789 abcdefilnoprstuvwxyz+-.,_'\n\t\\AZ~"

# Events of node 2, each with its text.
WRITTEN = {
    ("make", 0): "make 0",
    ("make", 4): "make 4",
    ("read", 0, 3): "read 0 3",
    ("read", 17, 0): "read 17 0",
    ("write", 3, 1, 0): "write 3 1 0",
    ("write", 3, 1, 20): "write 3 1 20",
    ("write", 0, 0, None): "write 0 0 none",
    ("write", 12, 3, None): "write 12 3 none",
    ("drop", 0): "drop 0",
    ("drop", 12345): "drop 12345",
    ("send", 1, ()): "send 1",
    ("send", 0, (7,)): "send 0 7",
    ("send", 0, (7, 7)): "send 0 7 7",
    ("send", 3, (9, 0, 0, 10)): "send 3 9 0 0 10",
    ("receive", (0, 2, 1, 0, (), ())): "receive 0 1 0 carried",
    ("receive", (1, 2, 13, 5, (4,), ())): "receive 1 13 5 4 carried",
    ("receive", (1, 2, 13, 5, (0, 4, 10), ())): "receive 1 13 5 0 4 10 carried",
    ("receive", (3, 2, 2, 0, (), (("export", 0),))): "receive 3 2 0 carried export 0",
    ("receive", (3, 2, 2, 0, (), (("return", 6),))): "receive 3 2 0 carried return 6",
    ("receive", (0, 2, 9, 1, (3,), (("export", 5), ("return", 0), ("export", 5), ("return", 11)))):
        "receive 0 9 1 3 carried export 5 return 0 export 5 return 11",
    ("collect",): "collect",
    ("report",): "report",
    ("remove", ()): "remove",
    ("remove", ((1, 0),)): "remove 1 0",
    ("remove", ((0, 3), (0, 12), (3, 0))): "remove 0 3 0 12 3 0",
}


def is_written_form(text):
    """Whether a text is one by the words of the document."""
    number = "(?:0|[1-9][0-9]{0,4})"
    forms = (
        f"make {number}", f"read {number} {number}", f"write {number} {number} (?:none|{number})", f"drop {number}",
        f"send {number}(?: {number}){{0,4}}", "collect", "report", f"remove((?: {number} {number})*)",
        f"receive {number} {number} {number}((?: {number})*) carried(?: (?:export|return) {number}){{0,4}}",
    )
    for form in forms:
        match = re.fullmatch(form, text)
        if match:
            row = [int(word) for word in (match.groups() or ("",))[0].split()]
            if form.startswith("remove"):
                row = list(zip(row[::2], row[1::2]))
            return row == sorted(set(row))
    return False


class WriteTest(unittest.TestCase):
    def test_every_kind_of_event(self):
        for event, text in WRITTEN.items():
            self.assertEqual(write_event(event), text)

    def test_all_numbers_of_roots_and_items(self):
        for many in range(5):
            roots = tuple(range(30, 30 + many))
            self.assertEqual(write_event(("send", 1, roots)), " ".join(["send 1", *map(str, roots)]))
            items = tuple((("export", "return")[at & 1], at) for at in range(many))
            words = [f"{kind} {at}" for kind, at in items]
            self.assertEqual(write_event(("receive", (1, 0, 2, 3, (), items))), " ".join(["receive 1 2 3 carried", *words]))

    def test_the_receiver_is_the_node_itself(self):
        for number in range(4):
            event = ("receive", (5, number, 1, 2, (3,), (("return", 4),)))
            self.assertEqual(write_event(event), "receive 5 1 2 3 carried return 4")
            self.assertEqual(read_event(number, "receive 5 1 2 3 carried return 4"), event)


class ReadTest(unittest.TestCase):
    def check(self, number, text):
        """None, or an event whose text it is, as the words of the document say."""
        event = read_event(number, text)
        self.assertEqual(event is not None, is_written_form(text), text)
        if event is not None:
            self.assertEqual(write_event(event), text)
        return event

    def refuse(self, *texts):
        for text in texts:
            self.assertIsNone(self.check(1, text), text)

    def test_every_kind_of_event(self):
        for event, text in WRITTEN.items():
            self.assertEqual(self.check(2, text), event)

    def test_shapes(self):
        self.assertEqual(read_event(0, "send 1 2 3"), ("send", 1, (2, 3)))
        for text in ("receive 1 1 0 2 3 carried export 1", "receive 1 1 0 carried"):
            _, message = read_event(0, text)
            self.assertIs(type(message), tuple)
            self.assertTrue(all(type(part) is tuple for part in message[4:]))
        entries = read_event(0, "remove 1 0 1 1")[1]
        self.assertEqual(entries, ((1, 0), (1, 1)))

    def test_bounds_but_those_of_the_shapes_do_not_matter(self):
        for text, event in (
            ("make 99999", ("make", 99999)), ("read 99999 88888", ("read", 99999, 88888)),
            ("write 9 9 99999", ("write", 9, 9, 99999)), ("send 99999 1", ("send", 99999, (1,))), ("send 2", ("send", 2, ())),
            ("receive 9 0 99999 carried", ("receive", (9, 2, 0, 99999, (), ()))),
            ("receive 2 1 1 carried", ("receive", (2, 2, 1, 1, (), ()))),
            ("remove 99999 0", ("remove", ((99999, 0),))),
        ):
            self.assertEqual(self.check(2, text), event)

    def test_signs_left_out_put_in_or_changed_at_every_place(self):
        others = 0
        for text in WRITTEN.values():
            for at in range(len(text) + 1):
                self.check(2, text[:at] + text[at + 1:])
                for sign in SIGNS:
                    self.check(2, text[:at] + sign + text[at:])
                    others += self.check(2, text[:at] + sign + text[at + 1:]) is not None
        self.assertGreater(others, 500)

    def test_spaces_and_newlines(self):
        for text in WRITTEN.values():
            for wrong in (f" {text}", f"{text} ", f"\n{text}", f"{text}\n", f"{text} \n", f"\t{text}", text + text, f"{text} {text}"):
                self.refuse(wrong)
            for at, sign in enumerate(text):
                if sign == " ":
                    for wrong in ("  ", "\n", "\t", " \n", "_"):
                        self.refuse(text[:at] + wrong + text[at + 1:])

    def test_numbers(self):
        for text in WRITTEN.values():
            for found in re.finditer("[0-9]+", text):
                for wrong in (
                    "+1", "-1", "-0", "+0", "00", "01", "007", "00000", "000001", "0x1", "1_0", "1.0", "1e2", "one", "",
                    "100000", "999999", "123456", "1000000", "00001", "None", "none ", "\u0661", "\u00b2",
                ):
                    self.refuse(text[:found.start()] + wrong + text[found.end():])
                for right in ("10000", "99999"):
                    self.check(1, text[:found.start()] + right + text[found.end():])

    def test_none_stands_only_for_other(self):
        self.refuse(
            "make none", "read none 0", "read 0 none", "write none 0 0", "write 0 none 0", "write 0 none none", "write none",
            "write 0 none", "drop none", "send none", "send 1 none", "remove none", "remove 1 none", "none", "collect none",
            "receive none 1 1 carried", "receive 1 1 1 none carried", "receive 1 1 1 carried none", "write 0 0 None",
            "write 0 0 none none", "write 0 0 0 none", "write 0 0 non", "write 0 0 nones",
        )

    def test_words(self):
        self.refuse(
            "", " ", "jump", "jump 1", "Make 1", "MAKE 1", "makes 1", "mak 1", "1", "1 make", "make make 1", "make 1 make",
            "collect collect", "report report", "collect 0", "report 0", "collect report", "node 2 0", "reclaim 1", "receive",
            "carried", "carried 1", "export 1", "make", "make 1 2", "read", "read 1", "read 1 2 3", "write", "write 1",
            "write 1 2", "write 1 2 3 4", "drop", "drop 1 2", "send", "remove 1", "remove 1 2 3", "remove1 2",
        )

    def test_words_of_messages(self):
        self.refuse(
            "receive 1 1 0", "receive carried", "receive 1 carried", "receive 1 1 carried", "receive 1 1 0 1 2",
            "receive 1 1 0 carried carried", "receive carried 1 1 0", "receive 1 1 0 carried 1", "receive 1 1 0 carried export",
            "receive 1 1 0 carried return", "receive 1 1 0 carried export export 1", "receive 1 1 0 carried export 1 1",
            "receive 1 1 0 carried export 1 2", "receive 1 1 0 carried export 1 return", "receive 1 1 0 carried 1 export",
            "receive 1 1 0 carried import 1", "receive 1 1 0 export 1", "receive 1 1 0 export 1 carried",
            "receive 1 1 0 carried export 1 carried", "receive 1 1 0 carried export 1 carried return 1",
            "receive 1 1 0 carried Export 1", "receive receive 1 1 0 carried", "receive 1 1 0 held 1 carried",
            "receive 1 1 0 carried export none", "receive 1 0 1 1 0 4 3 carried",
        )

    def test_rows_that_do_not_rise(self):
        self.refuse(
            "receive 1 1 0 3 3 carried", "receive 1 1 0 4 3 carried", "receive 1 1 0 1 2 2 carried", "receive 1 1 0 1 3 2 carried",
            "remove 1 0 1 0", "remove 1 1 1 0", "remove 2 0 1 5", "remove 0 1 0 2 0 2", "remove 0 1 2 0 1 9",
        )
        self.assertIsNotNone(self.check(1, "receive 1 1 0 9 10 11 carried"))
        self.assertIsNotNone(self.check(1, "remove 0 9 0 10 1 0 2 0 10 0"))
        # These rows need not rise.
        self.assertEqual(read_event(1, "send 0 3 2 2"), ("send", 0, (3, 2, 2)))
        self.assertEqual(self.check(1, "receive 0 1 9 carried export 3 export 3 return 0")[1][5][0], ("export", 3))

    def test_five_roots_and_items(self):
        self.refuse("send 0 1 2 3 4 5", "send 0 1 1 1 1 1 1")
        items = " export 1" * 4
        self.assertIsNotNone(self.check(1, f"receive 0 1 1 carried{items}"))
        self.refuse(f"receive 0 1 1 carried{items} export 1", f"receive 0 1 1 carried{items}{items}")
        many = " ".join(map(str, range(100, 140)))
        self.assertEqual(len(self.check(1, f"receive 0 1 1 {many} carried{items}")[1][4]), 40)
        self.assertEqual(len(self.check(1, f"remove {many}".replace(" 1", " 0 1"))[1]), 40)

    def test_drawn_texts(self):
        chance = random.Random(26)
        words = "make read write drop send receive collect report remove none carried export return 0 1 2 3 10 00 -1 123456".split()
        right = 0
        for _ in range(20000):
            text = " ".join(chance.choices(words, k=chance.randint(1, 7)))
            right += self.check(1, text) is not None
        self.assertGreater(right, 100)


class DrawnEventsTest(unittest.TestCase):
    def test_drawn_events(self):
        chance = random.Random(27)
        for _ in range(20):
            draw = Draw(chance, chance.randint(2, 4), reclaim=2)
            draw.add(80)
            for number, node in enumerate(draw.nodes):
                for event in node.history():
                    self.assertEqual(read_event(number, write_event(event)), event)

    def test_events_that_a_node_refuses(self):
        chance = random.Random(28)
        draw = Draw(chance, 3)
        draw.add(60)
        for _ in range(500):
            event = draw_wrong_event(chance, draw.nodes[1], [])
            if "-" in write_event(event) or event[0] == "send" and len(event[2]) > 4:
                self.assertIsNone(read_event(1, write_event(event)))
            elif event[0] != "receive" or event[1][1] == 1:
                self.assertEqual(read_event(1, write_event(event)), event)


if __name__ == "__main__":
    unittest.main()
