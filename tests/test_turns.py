"""The sorted turns, their last column and the place."""

import unittest

from tests.helper import WIDE, Draws, plain_turns, read_stream
from turnpack.packer import write
from turnpack.turns import last_column, sorted_turns


class Turns(unittest.TestCase):
    def held(self, text):
        kept = list(text)
        order = sorted_turns(text)
        self.assertEqual(order, plain_turns(text))
        self.assertEqual(last_column(text, order), [(text + text)[start + len(text) - 1] for start in order])
        self.assertEqual(text, kept)

    def test_one_byte(self):
        self.held([0])
        self.held([255])

    def test_a_known_text(self):
        text = list(b"banana")
        self.assertEqual(sorted_turns(text), [5, 3, 1, 0, 4, 2])
        self.assertEqual(bytes(last_column(text, [5, 3, 1, 0, 4, 2])), b"nnbaaa")

    def test_bytes_above_127_are_no_lower(self):
        self.held([200, 100, 255, 0, 127, 128])

    def test_all_short_texts(self):
        for length in range(1, 8):
            for number in range(3 ** length):
                self.held([number // 3 ** place % 3 for place in range(length)])

    def test_lengths_round_a_width_of_eight(self):
        draws = Draws(21)
        for length in (7, 8, 9, 15, 16, 17, 31, 32, 33, 64, 65):
            for limit in (1, 2, 3):
                for _ in range(10):
                    self.held(draws.some(length, limit))

    def test_turns_that_differ_late(self):
        for length in (100, 127, 128, 129, 1000):
            self.held([1] * length + [0])
            self.held([1] * length + [2])
            self.held([1, 2] * length + [1])
            self.held([1, 2] * length + [2])
            self.held([1, 2, 3] * length + [1, 2])
            self.held([3] * length + [1] + [3] * length + [2])

    def test_drawn_texts(self):
        draws = Draws(22)
        for limit in (2, 3, 256):
            for _ in range(30):
                self.held(draws.some(1 + draws.below(500), limit))


class EqualTurns(unittest.TestCase):
    def test_by_where_they_begin(self):
        self.assertEqual(sorted_turns([1] * 9), list(range(9)))
        self.assertEqual(sorted_turns([1, 2] * 3), [0, 2, 4, 1, 3, 5])
        self.assertEqual(sorted_turns([2, 1] * 3), [1, 3, 5, 0, 2, 4])
        self.assertEqual(sorted_turns([2, 3, 1] * 2), [2, 5, 0, 3, 1, 4])

    def test_shorter_texts_over_and_over(self):
        draws = Draws(23)
        for times in (2, 3, 5, 16, 40):
            for length in (1, 2, 7, 8, 9, 30):
                text = draws.some(length, 3) * times
                self.assertEqual(sorted_turns(text), plain_turns(text))

    def test_the_place_is_that_of_the_text_itself(self):
        for unit, times in (([1, 2], 50), ([2, 1], 50), ([3, 1, 2], 7), ([2, 2, 1, 2], 9), ([9, 0, 9, 1], 3)):
            text = unit * times
            block = read_stream(write(1, WIDE, text)[1:])["blocks"][0]
            order = plain_turns(text)
            self.assertEqual(block["place"], order.index(0))
            self.assertEqual(block["column"], [text[start - 1] for start in order])
            # No equal turn lies ahead of the one that begins at the beginning.
            self.assertEqual(block["place"] % times, 0)

    def test_two_places_by_hand(self):
        self.assertEqual(read_stream(write(1, WIDE, [1, 2] * 4)[1:])["blocks"][0]["place"], 0)
        self.assertEqual(read_stream(write(1, WIDE, [2, 1] * 4)[1:])["blocks"][0]["place"], 4)


if __name__ == "__main__":
    unittest.main()
