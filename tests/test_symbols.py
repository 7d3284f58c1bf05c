"""The repetitions, the symbols, and the choices."""

import unittest

from tests.helper import WIDE, Draws, plain_symbols, read_stream, said_column
from turnpack.packer import write
from turnpack.symbols import digits_of, symbols_of


class Repetitions(unittest.TestCase):
    def test_digits(self):
        told = {
            0: [], 1: [0], 2: [1], 3: [0, 0], 4: [1, 0], 5: [0, 1], 6: [1, 1], 7: [0, 0, 0],
            8: [1, 0, 0], 14: [1, 1, 1], 15: [0, 0, 0, 0], 30: [1, 1, 1, 1], 31: [0, 0, 0, 0, 0],
        }
        for number, digits in told.items():
            self.assertEqual(digits_of(number), digits)

    def test_digits_of_many_numbers(self):
        for number in list(range(3000)) + [99981, 900000]:
            digits = digits_of(number)
            self.assertEqual(sum((digit + 1) << place for place, digit in enumerate(digits)), number)

    def test_in_a_stream(self):
        # The text 1 2 1 2 ..: its column is all the 2s, then all the 1s; each is told once by its place, and
        # then repeated.
        told = {2: [0], 3: [1], 4: [0, 0], 5: [1, 0], 7: [1, 1], 8: [0, 0, 0], 9: [1, 0, 0]}
        for count, digits in told.items():
            symbols = read_stream(write(1, WIDE, [1, 2] * count)[1:])["blocks"][0]["symbols"]
            self.assertEqual(symbols, [2] + digits + [2] + digits + [3])

    def test_of_the_first_byte_at_once(self):
        self.assertEqual(symbols_of([5, 5, 5, 9], [5, 9]), [0, 0, 2, 3])
        self.assertEqual(symbols_of([9, 5, 5, 5], [5, 9]), [2, 2, 1, 3])

    def test_one_byte_over_and_over(self):
        self.assertEqual(symbols_of([7], [7]), [0, 2])
        self.assertEqual(symbols_of([7] * 6, [7]), [1, 1, 2])


class Places(unittest.TestCase):
    def test_a_byte_is_put_in_front(self):
        self.assertEqual(symbols_of([30, 10, 20, 30], [10, 20, 30]), [3, 2, 3, 3, 4])
        self.assertEqual(symbols_of([255, 0], list(range(256))), [256, 2, 257])

    def test_drawn_columns(self):
        draws = Draws(31)
        for limit in (1, 2, 5, 256):
            for _ in range(20):
                column = draws.some(1 + draws.below(300), limit)
                used = sorted(set(column))
                kept = list(used)
                symbols = symbols_of(column, used)
                self.assertEqual(symbols, plain_symbols(column))
                self.assertEqual(said_column(symbols, used), column)
                self.assertEqual(used, kept)


class Choices(unittest.TestCase):
    def held(self, data, symbols, choices):
        block = read_stream(write(1, WIDE, data)[1:])["blocks"][0]
        self.assertEqual(len(block["symbols"]), symbols)
        self.assertEqual(block["choices"], [0] * choices)
        self.assertEqual(len(block["tables"]), 2)
        self.assertEqual(block["tables"][0], block["tables"][1])

    def test_so_many_as_are_needed(self):
        # The column of 0, 1, .., n - 1 is n - 1, 0, .., n - 2: n symbols and the last one.
        for symbols, choices in ((3, 1), (49, 1), (50, 1), (51, 2), (52, 2), (99, 2), (100, 2), (101, 3),
                                 (149, 3), (150, 3), (151, 4), (200, 4), (201, 5), (250, 5), (251, 6), (257, 6)):
            self.held(list(range(symbols - 1)), symbols, choices)

    def test_many(self):
        draws = Draws(32)
        data = draws.some(20000, 256)
        block = read_stream(write(1, WIDE, data)[1:])["blocks"][0]
        self.assertEqual(block["choices"], [0] * (-(-len(block["symbols"]) // 50)))
        self.assertGreater(len(block["choices"]), 390)


if __name__ == "__main__":
    unittest.main()
