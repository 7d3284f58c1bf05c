"""The runs, where a block ends, and the sums."""

import bz2
import unittest

from tests.helper import WIDE, plain_sum, plain_total, read_stream
from turnpack.packer import write
from turnpack.runs import parted, run_length, run_text
from turnpack.sums import block_sum, with_block

LONGEST = 99981


def singles(count):
    """Bytes without two equal ones side by side, which end with another byte than 3 or 4."""
    return [1 + place % 2 for place in range(count)]


class Runs(unittest.TestCase):
    def test_each_length(self):
        counted = {
            1: [9], 2: [9, 9], 3: [9, 9, 9], 4: [9, 9, 9, 9, 0], 5: [9, 9, 9, 9, 1],
            254: [9, 9, 9, 9, 250], 255: [9, 9, 9, 9, 251],
            256: [9, 9, 9, 9, 251, 9], 258: [9, 9, 9, 9, 251, 9, 9, 9],
            259: [9, 9, 9, 9, 251, 9, 9, 9, 9, 0], 260: [9, 9, 9, 9, 251, 9, 9, 9, 9, 1],
            510: [9, 9, 9, 9, 251] * 2, 511: [9, 9, 9, 9, 251] * 2 + [9],
            1000: [9, 9, 9, 9, 251] * 3 + [9, 9, 9, 9, 231],
        }
        for length, text in counted.items():
            stream = write(1, WIDE, [9] * length)[1:]
            blocks = read_stream(stream)["blocks"]
            self.assertEqual([block["text"] for block in blocks], [text], length)
            self.assertEqual(bz2.decompress(bytes(stream)), bytes([9]) * length)

    def test_runs_side_by_side(self):
        data = [5] * 4 + [0] * 3 + [5] + [251] * 256 + [5] * 2
        text = [5, 5, 5, 5, 0, 0, 0, 0, 5, 251, 251, 251, 251, 251, 251, 5, 5]
        self.assertEqual(read_stream(write(1, WIDE, data)[1:])["blocks"][0]["text"], text)

    def test_a_run_is_taken_from_its_place_on(self):
        self.assertEqual(run_length([1, 2, 2, 2, 3], 1), 3)
        self.assertEqual(run_length([2] * 300, 0), 255)
        self.assertEqual(run_length([2] * 300, 255), 45)
        self.assertEqual(run_text(2, 3), [2, 2, 2])
        self.assertEqual(run_text(2, 4), [2, 2, 2, 2, 0])


class BlockEnds(unittest.TestCase):
    def held(self, data, lengths):
        """That the blocks stand for so many bytes each, and that their sums are right."""
        stream = write(1, WIDE, data)[1:]
        self.assertEqual(bz2.decompress(bytes(stream)), bytes(data))
        read = read_stream(stream)
        self.assertEqual([len(block["data"]) for block in read["blocks"]], lengths)
        at = 0
        sums = []
        for length in lengths:
            sums.append(plain_sum(data[at:at + length]))
            at += length
        self.assertEqual([block["sum"] for block in read["blocks"]], sums)
        self.assertEqual(read["sum"], plain_total(sums))

    def test_single_bytes(self):
        self.held(singles(LONGEST - 1), [LONGEST - 1])
        self.held(singles(LONGEST), [LONGEST])
        self.held(singles(LONGEST + 1), [LONGEST, 1])
        self.held(singles(100000), [LONGEST, 19])

    def test_a_run_as_it_is(self):
        for length in (2, 3):
            self.held(singles(LONGEST - length) + [3] * length, [LONGEST])
            self.held(singles(LONGEST - length + 1) + [3] * length, [LONGEST - length + 1, length])

    def test_a_counted_run(self):
        for length in (4, 5, 19):
            self.held(singles(LONGEST - 6) + [3] * length, [LONGEST - 6 + length])
            self.held(singles(LONGEST - 5) + [3] * length, [LONGEST - 5 + length])
            self.held(singles(LONGEST - 4) + [3] * length, [LONGEST - 4, length])
        self.held(singles(LONGEST - 4) + [3] * 4 + singles(15), [LONGEST - 4, 19])

    def test_a_run_longer_than_one_is_told(self):
        # The counted runs leave room for long ones: 4 bytes each make 5 of the text.
        ahead = [1, 1, 1, 1, 2, 2, 2, 2] * 9997
        self.assertEqual(len(ahead) // 4 * 5 + 11, LONGEST)
        self.held(ahead + singles(6) + [3] * 255, [len(ahead) + 261])
        self.held(ahead + singles(6) + [3] * 256, [len(ahead) + 261, 1])
        self.held(ahead + singles(6) + [3] * 600, [len(ahead) + 261, 345])
        self.held(ahead + singles(7) + [3] * 256, [len(ahead) + 7, 256])
        self.held(ahead + singles(1) + [3] * 600, [len(ahead) + 511, 90])

    def test_a_higher_level_ends_later(self):
        data = singles(100000)
        self.assertEqual(len(read_stream(write(2, WIDE, data)[1:])["blocks"]), 1)

    def test_more_than_two_blocks(self):
        pairs = parted(7, [1, 2, 3, 4, 4, 4, 4, 4, 4, 5, 5, 5, 6, 6, 7])
        self.assertEqual(pairs, [
            ([1, 2, 3], [1, 2, 3]),
            ([4] * 6, [4, 4, 4, 4, 2]),
            ([5, 5, 5, 6, 6, 7], [5, 5, 5, 6, 6, 7])])
        self.assertEqual(parted(7, []), [])
        self.assertEqual(parted(7, [1] * 1020), [([1] * 255, [1, 1, 1, 1, 251])] * 4)


class Sums(unittest.TestCase):
    def test_the_sum_of_a_block(self):
        self.assertEqual(block_sum([]), 0)
        self.assertEqual(block_sum(list(b"123456789")), 0xFC891918)
        for byte in range(256):
            self.assertEqual(block_sum([byte, 1, byte]), plain_sum([byte, 1, byte]))

    def test_the_sum_of_all_blocks_is_turned(self):
        self.assertEqual(with_block(0, 0xFC891918), 0xFC891918)
        self.assertEqual(with_block(0x80000001, 0), 3)
        self.assertEqual(with_block(0xFFFFFFFF, 0xFFFFFFFF), 0)
        total = 0
        sums = [0x80000000, 0xC0000003, 0x12345678, 0xFFFFFFFF]
        for own in sums:
            total = with_block(total, own)
        self.assertEqual(total, plain_total(sums))


if __name__ == "__main__":
    unittest.main()
