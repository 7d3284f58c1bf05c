"""What write refuses, and what it answers first."""

import unittest

from tests.helper import WIDE, Draws, plain_stream
from turnpack.packer import write

LOWEST = -2147483648
HIGHEST = 2147483647


class Refusals(unittest.TestCase):
    def test_level_out_of_range(self):
        for level in (LOWEST, -1, 0, 10, HIGHEST):
            for data in ([], [97], [1, 2, 3]):
                self.assertEqual(write(level, WIDE, data), [-1], level)

    def test_each_level_is_taken(self):
        for level in range(1, 10):
            answer = write(level, WIDE, [97, 98])
            self.assertEqual(answer[1:5], [66, 90, 104, 48 + level])
            self.assertEqual(answer[1:], plain_stream(level, [97, 98]))

    def test_most_out_of_range(self):
        for most in (LOWEST, -1, WIDE + 1, HIGHEST):
            for data in ([], [97]):
                self.assertEqual(write(5, most, data), [-1], most)

    def test_most_at_its_ends_is_in_range(self):
        self.assertEqual(write(5, 0, []), [-3])
        self.assertEqual(write(5, 0, [97]), [-3])
        self.assertEqual(write(5, WIDE, [97])[0], len(plain_stream(5, [97])))

    def test_out_of_range_goes_ahead_of_too_long(self):
        for level in (0, 10):
            self.assertEqual(write(level, 0, [97]), [-1])
        self.assertEqual(write(1, -1, [97]), [-1])
        self.assertEqual(write(0, -1, [97]), [-1])


class JustLongEnough(unittest.TestCase):
    def held_to_most(self, level, data):
        stream = plain_stream(level, data)
        length = len(stream)
        self.assertEqual(write(level, length - 1, data), [-3])
        self.assertEqual(write(level, length, data), [length] + stream)
        self.assertEqual(write(level, length + 1, data), [length] + stream)

    def test_no_bytes(self):
        self.held_to_most(1, [])

    def test_few_bytes(self):
        self.held_to_most(3, [97])
        self.held_to_most(9, [0, 255, 0, 255])

    def test_more_bytes(self):
        draws = Draws(11)
        for limit in (2, 17, 256):
            self.held_to_most(1 + draws.below(9), draws.some(700, limit))


if __name__ == "__main__":
    unittest.main()
