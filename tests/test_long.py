"""Inputs as long as the interface lets be handed in."""

import bz2
import unittest

from tests.helper import WIDE, Draws, mixed_turns, periodic_turns, plain_stream, read_stream
from turnpack.packer import write

MOST = 100000


def turns_as_read(blocks):
    """The turns as the reader found them, for texts that are all different from their own turns."""
    orders = {}
    for block in blocks:
        order = [0] * len(block["text"])
        for start, place in enumerate(block["places"]):
            order[place] = start
        # Each place is met once: then the column can be that of the sorted turns of this text alone.
        if sorted(order) != list(range(len(order))):
            raise ValueError("a text that is a shorter one over and over")
        orders[bytes(block["text"])] = order
    return lambda text: orders[bytes(text)]


class Long(unittest.TestCase):
    def held(self, level, data, turns=None):
        self.assertEqual(len(data), MOST)
        answer = write(level, WIDE, data)
        stream = answer[1:]
        self.assertEqual(answer[0], len(stream))
        self.assertEqual(bz2.decompress(bytes(stream)), bytes(data))
        if turns is None:
            turns = turns_as_read(read_stream(stream)["blocks"])
        self.assertEqual(stream, plain_stream(level, data, turns))
        self.assertEqual(write(level, len(stream), data), answer)
        self.assertEqual(write(level, len(stream) - 1, data), [-3])

    def test_all_equal(self):
        for byte in (0, 36, 251, 255):
            data = [byte] * MOST
            self.assertEqual(write(1, WIDE, data)[1:], plain_stream(1, data))
        self.held(9, [97] * MOST)

    def test_two_bytes_in_turn(self):
        self.held(9, [97, 98] * (MOST // 2), periodic_turns(2))
        self.held(2, [98, 97] * (MOST // 2), periodic_turns(2))
        self.held(1, [97, 98] * (MOST // 2 - 1) + [97, 97])

    def test_a_short_text_over_and_over(self):
        unit = list(b"a short text, and so on.\n")
        self.held(5, unit * (MOST // len(unit)), periodic_turns(len(unit)))
        self.held(1, [200, 7, 7, 7, 1, 9, 255, 0, 3, 4] * (MOST // 10))
        self.held(4, (unit + [0]) * 3846 + unit[:4])

    def test_runs_that_make_the_text_longer(self):
        self.held(9, [5, 5, 5, 5, 9, 9, 9, 9] * (MOST // 8), periodic_turns(10))
        draws = Draws(51)
        self.held(1, [byte for byte in draws.some(MOST // 4, 256) for _ in range(4)])

    def test_mixed_bytes(self):
        draws = Draws(52)
        self.held(1, draws.some(MOST, 256), mixed_turns)
        self.held(9, draws.some(MOST, 256), mixed_turns)
        self.held(3, draws.some(MOST, 2), mixed_turns)

    def test_a_mixed_text_twice(self):
        half = Draws(53).some(MOST // 2, 256)
        order = {}

        def turns(text):
            key = bytes(text)
            if key not in order:
                firsts = mixed_turns(text[:len(text) // 2])
                order[key] = [start for first in firsts for start in (first, first + len(text) // 2)]
            return order[key]
        self.held(9, half + half, turns)

    def test_words_that_come_back_late(self):
        one = [0]
        two = [0, 1]
        while len(two) < MOST:
            one, two = two, two + one
        self.held(9, two[:MOST])


if __name__ == "__main__":
    unittest.main()
