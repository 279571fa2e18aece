"""Records: texts in pieces, each piece in one block of a disk."""

from keptbywitness.disks import BLOCK

PIECE = 24
PIECES_MOST = 40

_MARK = 75
# How many bytes stand ahead of the codes.
_HEAD = 6
# All signs from the space on that a text may have: not the one with the code 37.
_SIGNS = " !\"#$&'()*+,-./0123456789:;<=>?@ABCDEFGHIJKLMNOPQRSTUVWXYZ[\\]^_`abcdefghijklmnopqrstuvwxyz{|}~"


def encode_record(number, text):
    """The list of the blocks of the record with this number."""
    pieces = [text[at:at + PIECE] for at in range(0, len(text), PIECE)]
    return [_block_of(index, len(pieces), number, piece) for index, piece in enumerate(pieces)]


def decode_piece(block):
    """The tuple (index, many, number, text) of the piece in a block, or None if it is none."""
    index, many, high, low, length = block[1:_HEAD]
    if block[0] != _MARK or block[-1] != _MARK or index >= many or not 1 <= length <= PIECE:
        return None
    signs = {ord(sign): sign for sign in _SIGNS}
    codes = block[_HEAD:_HEAD + length]
    behind = block[_HEAD + length:-1]
    if any([code not in signs for code in codes]) or any([byte != 0 for byte in behind]):
        return None
    return (index, many, 256 * high + low, "".join([signs[code] for code in codes]))


def _block_of(index, many, number, piece):
    """The block of one of so many pieces of a record."""
    head = [_MARK, index, many, number // 256, number & 255, len(piece)]
    codes = [ord(sign) for sign in piece]
    return head + codes + [0] * (BLOCK - 1 - len(head) - len(codes)) + [_MARK]
