"""Point 30: texts as pieces, the block of a piece, and which blocks are pieces."""

import random
import string
import unittest

from pagesatonce.blocks import PIECE, PIECES_MOST, decode_piece, encode_record
from stores import ZEROS, piece, pieces

ALLOWED = [chr(code) for code in range(32, 127) if code != 37]


def some_text(many):
    """A text of so many characters, in which neighbours differ."""
    return "".join(ALLOWED[at * 7 % len(ALLOWED)] for at in range(many))


def is_piece(block):
    """Whether a block is a piece, by the words of point 30."""
    _, index, many, _, _, length = block[:6]
    end = 6 + length
    return (
        block[0] == block[31] == 80
        and index < many
        and 1 <= length <= 24
        and all(32 <= code <= 126 and code != 37 for code in block[6:end])
        and not any(block[end:31])
    )


class Encoding(unittest.TestCase):
    def test_the_bounds(self):
        self.assertEqual((PIECE, PIECES_MOST), (24, 15))

    def test_each_byte_of_a_short_text(self):
        block = [80, 0, 1, 1, 2, 3, 97, 32, 126] + [0] * 21 + [0, 80]
        self.assertEqual(encode_record(258, "a ~"), [block])

    def test_each_byte_of_a_full_piece_and_of_the_one_behind_it(self):
        text = "abcdefghijklmnopqrstuvwxyz"
        first = [80, 0, 2, 0, 7, 24, *range(97, 121), 0, 80]
        second = [80, 1, 2, 0, 7, 2, 121, 122] + [0] * 22 + [0, 80]
        self.assertEqual(encode_record(7, text), [first, second])

    def test_numbers_of_records_in_two_bytes(self):
        for number, high, low in ((0, 0, 0), (1, 0, 1), (255, 0, 255), (256, 1, 0), (65534, 255, 254), (65535, 255, 255)):
            for block in encode_record(number, some_text(30)):
                self.assertEqual(block[3:5], [high, low])

    def test_how_many_pieces(self):
        for many, blocks in ((1, 1), (23, 1), (24, 1), (25, 2), (48, 2), (49, 3), (359, 15), (360, 15)):
            found = encode_record(3, some_text(many))
            self.assertEqual(len(found), blocks, many)
            self.assertEqual([block[5] for block in found[:-1]], [24] * (blocks - 1))
            self.assertEqual(found[-1][5], many - 24 * (blocks - 1))

    def test_texts_of_all_lengths(self):
        for many in range(1, 361):
            text = some_text(many)
            for number in (0, 399):
                self.assertEqual(encode_record(number, text), pieces(number, text))

    def test_each_block_has_32_bytes(self):
        for many in (1, 24, 25, 360):
            for block in encode_record(65535, some_text(many)):
                self.assertEqual(len(block), 32)
                self.assertTrue(all(0 <= byte <= 255 for byte in block))

    def test_each_list_is_new(self):
        one, other = encode_record(1, "abc"), encode_record(1, "abc")
        one[0][0] = 0
        one.clear()
        self.assertEqual(other, encode_record(1, "abc"))


class Decoding(unittest.TestCase):
    def test_each_block_leads_back_to_its_piece(self):
        for many in (1, 23, 24, 25, 48, 359, 360):
            text = some_text(many)
            for number in (0, 255, 256, 65535):
                blocks = encode_record(number, text)
                parts = [text[at:at + 24] for at in range(0, many, 24)]
                self.assertEqual(
                    [decode_piece(block) for block in blocks],
                    [(index, len(blocks), number, part) for index, part in enumerate(parts)],
                )

    def test_each_character(self):
        for sign in ALLOWED:
            self.assertEqual(decode_piece(piece(0, 1, 0, sign)), (0, 1, 0, sign))
            self.assertEqual(decode_piece(encode_record(5, sign * 24)[0]), (0, 1, 5, sign * 24))
        self.assertEqual(len(ALLOWED), 94)

    def test_pieces_that_need_not_be_of_a_record(self):
        # Also more pieces than a record has, and short ones amid others.
        for index, many in ((0, 1), (0, 255), (14, 15), (15, 16), (254, 255)):
            self.assertEqual(decode_piece(piece(index, many, 9, "x y")), (index, many, 9, "x y"))

    def test_an_index_not_less_than_the_number_of_pieces(self):
        for index, many in ((0, 0), (1, 1), (1, 0), (15, 15), (255, 255), (255, 254)):
            self.assertIsNone(decode_piece(piece(index, many, 9, "x y")))

    def test_other_bytes_at_the_ends(self):
        for at in (0, 31):
            for byte in (0, 79, 81, 255):
                block = piece(0, 1, 9, "x y")
                block[at] = byte
                self.assertIsNone(decode_piece(block))

    def test_the_number_of_characters(self):
        block = piece(0, 1, 0, "x" * 24)
        for length, known in ((0, False), (1, False), (23, False), (24, True), (25, False), (26, False), (255, False)):
            block[5] = length
            self.assertEqual(decode_piece(block) is not None, known, length)
        self.assertIsNone(decode_piece([80, 0, 1, 0, 0, 0] + [0] * 25 + [80]))
        # The zero behind the codes is no code, whatever it is.
        self.assertIsNone(decode_piece([80, 0, 1, 0, 0, 25] + [65] * 25 + [80]))

    def test_codes(self):
        for code, known in ((0, False), (10, False), (31, False), (32, True), (36, True), (37, False), (38, True),
                            (126, True), (127, False), (128, False), (255, False)):
            for at in (0, 1, 2):
                block = piece(1, 2, 3, "abc")
                block[6 + at] = code
                wanted = "abc"[:at] + chr(code) + "abc"[at + 1:]
                self.assertEqual(decode_piece(block), (1, 2, 3, wanted) if known else None)

    def test_bytes_behind_the_codes(self):
        for length in (1, 5, 23, 24):
            for at in range(6 + length, 31):
                for byte in (1, 32, 65, 80, 255):
                    block = piece(0, 1, 3, "x" * length)
                    block[at] = byte
                    self.assertIsNone(decode_piece(block))

    def test_blocks_of_one_number(self):
        for number in (0, 1, 32, 80, 255):
            self.assertIsNone(decode_piece([number] * 32))

    def test_one_byte_changed_at_any_place(self):
        for text in ("x", "some words", "y" * 24):
            for at in range(32):
                for byte in range(256):
                    block = piece(2, 4, 600, text)
                    block[at] = byte
                    found = decode_piece(block)
                    self.assertEqual(found is not None, is_piece(block), (text, at, byte))
                    if found is not None:
                        index, many, number, characters = found
                        self.assertEqual(piece(index, many, number, characters), block)

    def test_random_blocks_that_are_nearly_pieces(self):
        dice = random.Random(30)
        known = 0
        for _ in range(4000):
            text = "".join(dice.choices(string.ascii_lowercase, k=dice.randint(1, 24)))
            block = piece(dice.randrange(4), dice.randrange(5), dice.randrange(65536), text)
            for _ in range(dice.randrange(3)):
                block[dice.randrange(32)] = dice.choice([0, 1, 31, 32, 37, 80, 126, 127])
            found = decode_piece(block)
            self.assertEqual(found is not None, is_piece(block), block)
            known += found is not None
        self.assertTrue(500 < known < 3500)

    def test_what_is_no_block(self):
        block = piece(0, 1, 0, "abc")
        for other in (block[:31], block + [80], block[:-2] + [80], block[:30] + [0, 0, 80]):
            self.assertIsNone(decode_piece(other))
        for at in range(32):
            for number in (-1, 256):
                self.assertIsNone(decode_piece(block[:at] + [number] + block[at + 1:]))

    def test_the_block_that_is_handed_in_stays_as_it_is(self):
        for block in (piece(1, 2, 3, "abc"), piece(2, 1, 3, "abc"), list(ZEROS)):
            before = list(block)
            decode_piece(block)
            self.assertEqual(block, before)


if __name__ == "__main__":
    unittest.main()
