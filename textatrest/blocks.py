"""Records as blocks: a text is cut into pieces, each of which fills one block."""

from textatrest.disks import BLOCK

PIECE = 24
PIECES_MOST = 10
# The first and the last byte of each piece.
FENCE = 82
FIRST_CODE = 32
LAST_CODE = 126
# The one code between the first and the last that no text has; below a question mark stands for it.
BARRED_CODE = 37
CHARACTERS = (
    " !\"#$?&'()*+,-./0123456789:;<=>?@ABCDEFGHIJKLMNOPQRSTUVWXYZ[\\]^_`abcdefghijklmnopqrstuvwxyz{|}~"
)
# Ahead of the codes stand the fence, the index, how many there are, two bytes of the record and the length.
CODES_AT = 6


def encode_record(number, text):
    """The list of the blocks of the record."""
    many = piece_count(text)
    return [encode_piece(index, many, number, text) for index in range(many)]


def decode_piece(block):
    """The tuple (index, many, number, text) of a piece; None if the block is none."""
    _, index, many, high, low, length = block[:CODES_AT]
    codes, behind = block[CODES_AT:CODES_AT + length], block[CODES_AT + length:-1]
    if block[0] != FENCE or block[-1] != FENCE or index >= many or not 1 <= length <= PIECE:
        return None
    if not all([is_code(code) for code in codes]) or any([byte != 0 for byte in behind]):
        return None
    return (index, many, high * 256 + low, "".join([CHARACTERS[code - FIRST_CODE] for code in codes]))


def piece_count(text):
    """How many pieces the text has."""
    return (len(text) + PIECE - 1) // PIECE


def encode_piece(index, many, number, text):
    """The block of the piece of the text that has this index, of so many."""
    codes = [ord(letter) for letter in text[index * PIECE:(index + 1) * PIECE]]
    ahead = [FENCE, index, many, number // 256, number & 255, len(codes)]
    zeros = [0] * (BLOCK - 1 - CODES_AT - len(codes))
    return ahead + codes + zeros + [FENCE]


def is_code(code):
    """Whether it is the code of a character that a text can have."""
    return FIRST_CODE <= code <= LAST_CODE and code != BARRED_CODE
