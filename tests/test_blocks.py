"""Points 2 and 29: texts as records, byte by byte, and which blocks are a piece."""

import random
import unittest

from keptbywitness import blocks
from keptbywitness.blocks import decode_piece, encode_record

SIGNS = "".join(chr(code) for code in range(32, 127) if code != 37)


def text_of(many):
    """A text of so many characters, with all signs where there is room for them."""
    return (SIGNS * 11)[:many]


def piece_of(text, index=0, many=1, number=0):
    """The bytes of the piece, in the order in which point 29 lists them."""
    codes = [ord(sign) for sign in text]
    return [75, index, many, *divmod(number, 256), len(text), *codes, *[0] * (24 - len(text)), 0, 75]


class EncodeTest(unittest.TestCase):
    def test_constants(self):
        self.assertEqual((blocks.PIECE, blocks.PIECES_MOST), (24, 40))

    def test_a_short_text_byte_by_byte(self):
        self.assertEqual(encode_record(0, "node 2 1"), [
            [75, 0, 1, 0, 0, 8, 110, 111, 100, 101, 32, 50, 32, 49] + [0] * 16 + [0, 75],
        ])
        self.assertEqual(encode_record(258, "AB"), [[75, 0, 1, 1, 2, 2, 65, 66] + [0] * 23 + [75]])

    def test_all_lengths(self):
        for length, last in ((1, 1), (23, 23), (24, 24), (25, 1), (48, 24), (49, 1), (959, 23), (960, 24)):
            for number in (0, 1, 255, 256, 257, 399, 65535):
                text = text_of(length)
                record = encode_record(number, text)
                many = (length + 23) // 24
                self.assertEqual(len(record), many)
                self.assertEqual(record, [
                    piece_of(text[24 * index:24 * index + 24], index, many, number) for index in range(many)
                ])
                self.assertEqual([record[-1][5], *(block[5] for block in record[:-1])], [last] + [24] * (many - 1))
                self.assertTrue(all(len(block) == 32 for block in record))

    def test_each_block_leads_back_to_its_piece(self):
        for length in range(1, 961):
            text, number = text_of(length), (length * 67) & 65535
            pieces = [decode_piece(block) for block in encode_record(number, text)]
            many = len(pieces)
            self.assertEqual([piece[:3] for piece in pieces], [(index, many, number) for index in range(many)])
            self.assertEqual("".join(piece[3] for piece in pieces), text)
            self.assertTrue(all(type(piece) is tuple and len(piece) == 4 for piece in pieces))

    def test_what_is_returned_is_new(self):
        one, other = encode_record(3, text_of(50)), encode_record(3, text_of(50))
        one[0][7] = 0
        one.pop()
        self.assertEqual(other, encode_record(3, text_of(50)))


class DecodeTest(unittest.TestCase):
    def check(self, block, expected):
        before = list(block)
        self.assertEqual(decode_piece(block), expected, block)
        self.assertEqual(block, before)

    def test_pieces(self):
        for length in range(1, 25):
            for index, many in ((0, 1), (0, 40), (39, 40), (0, 255), (40, 41), (254, 255), (253, 255), (0, 2)):
                for number in (0, 1, 255, 256, 65535):
                    text = text_of(length)
                    self.check(piece_of(text, index, many, number), (index, many, number, text))
        for sign in SIGNS:
            self.check(piece_of(sign), (0, 1, 0, sign))
            self.check(piece_of(text_of(23) + sign), (0, 1, 0, text_of(23) + sign))

    def test_blocks_of_zeros(self):
        self.check([0] * 32, None)
        self.check([75] + [0] * 30 + [75], None)

    def test_first_and_last_byte(self):
        for byte in range(256):
            for at in (0, 31):
                block = piece_of("collect")
                block[at] = byte
                self.check(block, (0, 1, 0, "collect") if byte == 75 else None)

    def test_index_and_many(self):
        for many in (0, 1, 2, 40, 41, 255):
            for index in range(256):
                self.check(piece_of("drop 1", index, many, 9), (index, many, 9, "drop 1") if index < many else None)

    def test_number(self):
        for high in (0, 1, 74, 255):
            for low in (0, 1, 75, 255):
                self.check(piece_of("report", 0, 1, 256 * high + low), (0, 1, 256 * high + low, "report"))

    def test_number_of_characters(self):
        for many in range(256):
            for text in ("a", "drop 17", text_of(24)):
                block = piece_of(text)
                block[5] = many
                self.check(block, (0, 1, 0, text) if many == len(text) else None)
        # Bytes behind the 24 are no characters, also if they are codes.
        block = piece_of(text_of(24))
        block[5:31] = [25] + [65] * 25
        self.check(block, None)
        block = piece_of("")
        self.check(block, None)

    def test_codes(self):
        for length in (1, 5, 24):
            for at in range(length):
                for code in range(256):
                    block = piece_of("a" * length)
                    block[6 + at] = code
                    right = 32 <= code <= 126 and code != 37
                    text = "a" * at + (chr(code) if right else "") + "a" * (length - at - 1)
                    self.check(block, (0, 1, 0, text) if right else None)

    def test_bytes_behind_the_characters(self):
        for length in (1, 2, 12, 23, 24):
            for at in range(6 + length, 31):
                for byte in (1, 32, 37, 75, 97, 255):
                    block = piece_of(text_of(length))
                    self.assertEqual(block[at], 0)
                    block[at] = byte
                    self.check(block, None)

    def test_a_piece_torn_at_every_place_over_zeros(self):
        for text in ("x", "collect", text_of(23), text_of(24), "K" * 24):
            for number in (0, 75 * 256 + 75):
                block = piece_of(text, 0, 2, number)
                for many in range(32):
                    self.check(block[:many] + [0] * (32 - many), None)
                    self.check([0] * (32 - many) + block[32 - many:], None)
                self.check(block, (0, 2, number, text))

    def test_drawn_blocks(self):
        chance = random.Random(29)
        right = 0
        for _ in range(3000):
            block = piece_of(text_of(chance.randint(1, 24)), chance.randint(0, 3), chance.randint(0, 4), chance.randint(0, 999))
            for _ in range(chance.choice((0, 1, 1, 2))):
                block[chance.randrange(32)] = chance.choice((0, 1, 24, 25, 37, 75, 97, 126, 127, 255))
            piece = decode_piece(block)
            if piece is not None:
                index, many, number, text = piece
                self.assertEqual(block, piece_of(text, index, many, number))
                self.assertTrue(index < many and 1 <= len(text) <= 24 and set(text) <= set(SIGNS))
                right += 1
        self.assertGreater(right, 500)


if __name__ == "__main__":
    unittest.main()
