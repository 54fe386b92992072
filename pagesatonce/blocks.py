"""Texts as the blocks of a disk: each block has a piece of a text."""

from pagesatonce.disks import BLOCK

PIECE = 24
PIECES_MOST = 15

# The first and the last byte of the block of a piece.
_MARK = 80
# What comes ahead of the codes of the characters: the mark, three numbers of one byte and one of two.
_HEAD = 6
_BYTE = 256

_CODE_LEAST = 32
_CODE_MOST = 126
_PERCENT = 37
# The characters by their codes, from the least one on; a space fills the place of the one that no text has.
_SIGNS = (
    " !\"#$ &'()*+,-./0123456789:;<=>?@ABCDEFGHIJKLMNOPQRSTUVWXYZ[\\]^_`abcdefghijklmnopqrstuvwxyz{|}~"
)


def encode_record(number, text):
    """The list of the blocks of a record with this number and text."""
    pieces = [text[at:at + PIECE] for at in range(0, len(text), PIECE)]
    return [_block(index, len(pieces), number, piece) for index, piece in enumerate(pieces)]


def decode_piece(block):
    """What a block has, if it is a piece: a tuple (index, many, number, text); None otherwise."""
    if len(block) != BLOCK or not all([0 <= byte < _BYTE for byte in block]):
        return None
    first, index, many, high, low, length = block[:_HEAD]
    end = _HEAD + length
    codes = block[_HEAD:end]
    if first != _MARK or block[-1] != _MARK or index >= many:
        return None
    if not 1 <= length <= PIECE or not all([_is_code(code) for code in codes]):
        return None
    if any([byte != 0 for byte in block[end:-1]]):
        return None
    return (index, many, high * _BYTE + low, "".join([_SIGNS[code - _CODE_LEAST] for code in codes]))


def _block(index, many, number, piece):
    high, low = divmod(number, _BYTE)
    codes = [ord(sign) for sign in piece]
    head = [_MARK, index, many, high, low, len(codes)]
    return head + codes + [0] * (BLOCK - _HEAD - len(codes) - 1) + [_MARK]


def _is_code(code):
    return _CODE_LEAST <= code <= _CODE_MOST and code != _PERCENT
