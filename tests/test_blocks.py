"""textatrest.blocks: encode_record and decode_piece (point 27 of the document)."""

import unittest

from storing import ZEROS, plain_blocks, plain_piece
from textatrest.blocks import PIECE, PIECES_MOST, decode_piece, encode_record

# All characters that a text can have.
LETTERS = "".join([bytes([code]).decode("ascii") for code in range(32, 127) if code != 37])
LENGTHS = (1, 2, 23, 24, 25, 47, 48, 49, 216, 217, 239, 240)
NUMBERS = (0, 1, 255, 256, 257, 512, 65535)


def text_of(many, start=0):
    return "".join([LETTERS[(start + 7 * at) % len(LETTERS)] for at in range(many)])


class Encoded(unittest.TestCase):
    def test_constants(self):
        self.assertEqual((PIECE, PIECES_MOST), (24, 10))

    def test_each_byte_of_a_short_record(self):
        self.assertEqual(
            encode_record(0, "hands 2 0 4"),
            [[82, 0, 1, 0, 0, 11, 104, 97, 110, 100, 115, 32, 50, 32, 48, 32, 52] + [0] * 14 + [82]],
        )
        self.assertEqual(encode_record(258, " "), [[82, 0, 1, 1, 2, 1, 32] + [0] * 24 + [82]])

    def test_each_byte_of_a_full_piece(self):
        codes = list(range(97, 121))
        self.assertEqual(encode_record(65535, "abcdefghijklmnopqrstuvwx"), [[82, 0, 1, 255, 255, 24, *codes, 0, 82]])

    def test_each_byte_of_two_pieces(self):
        codes = list(range(97, 121))
        self.assertEqual(
            encode_record(256, "abcdefghijklmnopqrstuvwxy"),
            [[82, 0, 2, 1, 0, 24, *codes, 0, 82], [82, 1, 2, 1, 0, 1, 121] + [0] * 24 + [82]],
        )

    def test_each_byte_of_records_of_each_length_and_number(self):
        for many in LENGTHS:
            for number in NUMBERS:
                text = text_of(many, many + number)
                blocks = encode_record(number, text)
                self.assertEqual(blocks, plain_blocks(number, text))
                self.assertEqual(len(blocks), -(-many // 24))
                for index, block in enumerate(blocks):
                    self.assertIsInstance(block, list)
                    self.assertEqual(len(block), 32)
                    self.assertEqual(block[:3] + block[30:], [82, index, len(blocks), 0, 82])
                    self.assertEqual(block[3] * 256 + block[4], number)

    def test_every_length(self):
        for many in range(1, 241):
            blocks = encode_record(7, "x" * many)
            self.assertEqual([block[5] for block in blocks[:-1]], [24] * (len(blocks) - 1))
            self.assertEqual(sum([block[5] for block in blocks]), many)

    def test_every_character(self):
        for letter in LETTERS:
            self.assertEqual(encode_record(3, letter)[0][6], ord(letter))

    def test_the_lists_are_new(self):
        blocks = encode_record(3, "abc" * 16)
        blocks[0][6] = 0
        blocks.append([])
        self.assertEqual(encode_record(3, "abc" * 16), plain_blocks(3, "abc" * 16))


class Decoded(unittest.TestCase):
    def check(self, block, expected):
        passed = list(block)
        with self.subTest(block=block):
            self.assertEqual(decode_piece(passed), expected)
            self.assertEqual(passed, block)

    def test_each_block_leads_back_to_its_piece(self):
        for many in LENGTHS:
            for number in NUMBERS:
                text = text_of(many, number)
                blocks = encode_record(number, text)
                for index, block in enumerate(blocks):
                    self.check(block, (index, len(blocks), number, text[24 * index:24 * index + 24]))

    def test_the_kind_of_what_is_returned(self):
        found = decode_piece(encode_record(5, "abc")[0])
        self.assertIsInstance(found, tuple)
        self.assertEqual([type(part) for part in found], [int, int, int, str])

    def test_every_character(self):
        for letter in LETTERS:
            self.check(plain_blocks(1, letter)[0], (0, 1, 1, letter))

    def test_zeros(self):
        self.check(ZEROS, None)
        self.check([82] + [0] * 30 + [82], None)
        self.check([82] * 32, None)

    def test_the_first_and_the_last_byte(self):
        for place in (0, 31):
            for byte in (0, 1, 81, 83, 255):
                block = plain_blocks(1, "abc")[0]
                block[place] = byte
                self.check(block, None)

    def test_indexes_and_numbers_of_pieces(self):
        for many in (1, 2, 10, 11, 255):
            for index in (0, 1, 9, 10, 11, 254, 255):
                block = [82, index, many] + plain_blocks(1, "abc")[0][3:]
                self.check(block, (index, many, 1, "abc") if index < many else None)
        self.check([82, 0, 0] + plain_blocks(1, "abc")[0][3:], None)

    def test_numbers_of_characters(self):
        block = plain_blocks(1, "a" * 24)[0]
        self.check(block[:5] + [25] + block[6:], None)
        self.check(block[:5] + [25] + [97] * 25 + [82], None)
        self.check(block[:5] + [0] + block[6:], None)
        self.check(block[:5] + [0] + [0] * 25 + [82], None)
        for many in range(1, 24):
            self.check(block[:5] + [many] + block[6:], None)
            self.check(block[:5] + [many] + [97] * many + [0] * (25 - many) + [82], (0, 1, 1, "a" * many))
            self.check(block[:5] + [many] + [97] * (many - 1) + [0] * (26 - many) + [82], None)
        for many in (26, 31, 32, 100, 255):
            self.check(block[:5] + [many] + block[6:], None)

    def test_codes(self):
        for code, fine in (
            (0, False), (1, False), (10, False), (31, False), (32, True), (33, True), (34, True), (36, True),
            (37, False), (38, True), (125, True), (126, True), (127, False), (128, False), (255, False),
        ):
            for place in (0, 1, 2):
                block = plain_blocks(1, "abc")[0]
                block[6 + place] = code
                text = bytes(block[6:9]).decode("latin-1")
                self.check(block, (0, 1, 1, text) if fine else None)

    def test_bytes_behind_the_codes(self):
        for many in (1, 5, 23, 24):
            for place in range(6 + many, 31):
                for byte in (1, 32, 82, 97, 255):
                    block = plain_blocks(1, "a" * many)[0]
                    block[place] = byte
                    self.check(block, None)

    def test_each_byte_changed_to_each_number(self):
        found = {True: 0, False: 0}
        for text in ("a", "hands 2 0 4", text_of(24), text_of(40)):
            for block in plain_blocks(300, text):
                for place in range(32):
                    for byte in range(256):
                        changed = block[:place] + [byte] + block[place + 1:]
                        expected = plain_piece(changed)
                        self.assertEqual(decode_piece(changed), expected)
                        found[expected is None] += 1
        self.assertGreater(min(found.values()), 1000)

    def test_torn_over_zeros_and_zeros_torn_over_a_piece(self):
        for text in ("a", "hands 2 0 4", text_of(24), text_of(240)):
            for block in plain_blocks(300, text):
                for stays in range(32):
                    self.check(block[:stays] + ZEROS[stays:], None)
                    self.check(ZEROS[:stays + 1] + block[stays + 1:], None)

    def test_torn_over_another_piece(self):
        one, other = plain_blocks(1, "abcdefgh")[0], plain_blocks(2, "ABCDEFGHIJKLMNOP")[0]
        for stays in range(33):
            torn = one[:stays] + other[stays:]
            self.check(torn, plain_piece(torn))


if __name__ == "__main__":
    unittest.main()
