"""Exact streams: worked out by hand, and by the plain writer."""

import bz2
import unittest

from tests.helper import BLOCK_MARK, END_MARK, WIDE, Draws, packed_bits, plain_stream, read_stream
from turnpack.packer import write


def hex_numbers(text):
    return list(bytes.fromhex(text))


def bits_of(width, number):
    return f"{number:0{width}b}"


class ByHand(unittest.TestCase):
    def test_no_bytes_is_no_block(self):
        end = hex_numbers("17 72 45 38 50 90 00 00 00 00")
        for level in range(1, 10):
            self.assertEqual(write(level, WIDE, []), [14, 66, 90, 104, 48 + level] + end)

    def test_one_byte(self):
        # One turn; a is repeated once in its row: the symbols 0 and 2. All three weigh 1: 0 and 1 are
        # joined first, so they lie deeper than 2.
        table = "00010" + "0" + "0" + "110"
        bits = (
            "".join(bits_of(8, sign) for sign in b"BZh6") + BLOCK_MARK
            + bits_of(32, 0x19939B6B) + "0" + bits_of(24, 0)
            + "0000001000000000" + "0100000000000000"
            + "010" + bits_of(15, 1) + "0" + table + table + "10" + "0"
            + END_MARK + bits_of(32, 0x19939B6B))
        stream = packed_bits(bits)
        self.assertEqual(write(6, WIDE, [97]), [len(stream)] + stream)

    def test_equal_turns(self):
        # abab: the turns at 0, 2, 1, 3; their last column bbaa; the symbols 2 0 2 0 3. Of the trees with
        # weight 2, 0 and 2 have lower numbers than the one joined of 1 and 3: all lengths are 2.
        table = "00010" + "0000"
        bits = (
            "".join(bits_of(8, sign) for sign in b"BZh1") + BLOCK_MARK
            + bits_of(32, 0x8738E0F6) + "0" + bits_of(24, 0)
            + "0000001000000000" + "0110000000000000"
            + "010" + bits_of(15, 1) + "0" + table + table + "10" + "00" + "10" + "00" + "11"
            + END_MARK + bits_of(32, 0x8738E0F6))
        stream = packed_bits(bits)
        self.assertEqual(write(1, WIDE, [97, 98, 97, 98]), [len(stream)] + stream)

    def test_four_equal_bytes(self):
        # The text aaaa and 0: the turns at 4, 3, 2, 1, 0, so the place is 4; the last column aaaa0; the
        # symbols 2 0 0 2 3 (three repetitions are two digits 1).
        table = "00010" + "0000"
        bits = (
            "".join(bits_of(8, sign) for sign in b"BZh9") + BLOCK_MARK
            + bits_of(32, 0x881233A6) + "0" + bits_of(24, 4)
            + "1000001000000000" + "1000000000000000" + "0100000000000000"
            + "010" + bits_of(15, 1) + "0" + table + table + "10" + "00" + "00" + "10" + "11"
            + END_MARK + bits_of(32, 0x881233A6))
        stream = packed_bits(bits)
        self.assertEqual(write(9, WIDE, [97] * 4), [len(stream)] + stream)


class ByThePlainWriter(unittest.TestCase):
    def held(self, level, data):
        answer = write(level, WIDE, data)
        self.assertEqual(answer[0], len(answer) - 1)
        self.assertEqual(answer[1:], plain_stream(level, data), data)
        self.assertEqual(list(bz2.decompress(bytes(answer[1:]))), data)

    def test_each_single_byte(self):
        for byte in range(256):
            self.held(1 + byte % 9, [byte])

    def test_all_bytes(self):
        self.held(1, list(range(256)))
        self.held(2, list(range(255, -1, -1)))
        self.held(3, [byte * 77 % 256 for byte in range(256)])
        self.held(9, [byte for byte in range(256) for _ in range(4)])

    def test_short_texts_of_two_bytes(self):
        for length in range(1, 9):
            for number in range(2 ** length):
                self.held(4, [97 + (number >> place) % 2 for place in range(length)])

    def test_drawn_inputs(self):
        draws = Draws(1)
        for limit in (1, 2, 3, 4, 10, 50, 256):
            for _ in range(60):
                self.held(1 + draws.below(9), draws.some(draws.below(400), limit))

    def test_drawn_runs(self):
        draws = Draws(2)
        for longest in (3, 5, 8, 300, 900):
            for _ in range(20):
                data = []
                for _ in range(draws.below(12)):
                    data.extend([draws.below(3)] * (1 + draws.below(longest)))
                self.held(1 + draws.below(9), data)

    def test_runs_of_bytes_that_are_like_their_counts(self):
        for byte in (0, 1, 4, 250, 251):
            for length in (byte + 3, byte + 4, byte + 5, 255, 259, 260, 515):
                self.held(1, [byte] * length)
                self.held(1, [7] + [byte] * length + [byte ^ 1] * 4)

    def test_a_text_in_words(self):
        words = "the turns of a text are sorted and the last column of them is told ".encode()
        self.held(1, list(words * 40))
        self.held(1, list(words * 40)[5:-3])


class AnotherReader(unittest.TestCase):
    """Longer drawn inputs, read back by Python's own reader and by the tests' own, which takes no slack."""

    def test_drawn_inputs_are_read_back(self):
        draws = Draws(3)
        for limit in (1, 2, 5, 30, 256):
            for _ in range(12):
                data = draws.some(draws.below(6000), limit)
                level = 1 + draws.below(9)
                answer = write(level, WIDE, data)
                self.assertEqual(list(bz2.decompress(bytes(answer[1:]))), data)
                read = read_stream(answer[1:])
                self.assertEqual(read["level"], level)
                self.assertEqual([byte for block in read["blocks"] for byte in block["data"]], data)


if __name__ == "__main__":
    unittest.main()
