"""The lengths of a table, with the halving, its words, and how it is told."""

import bz2
import unittest

from tests.helper import WIDE, Draws, mixed_turns, packed_bits, plain_depths, plain_lengths, plain_stream
from tests.helper import plain_table, plain_words, read_stream
from turnpack.bits import BitRow
from turnpack.block import put_table
from turnpack.packer import write
from turnpack.table import depths_of, lengths_of, weights_of, words_of


def fibonacci(count):
    weights = [1, 1]
    while len(weights) < count:
        weights.append(weights[-1] + weights[-2])
    return weights[:count]


def steep_weights(count, up, down):
    """Weights that grow by up over down from each to the next."""
    weights = [1]
    while len(weights) < count:
        weights.append(-(-weights[-1] * up // down))
    return weights


class Weights(unittest.TestCase):
    def test_at_least_one(self):
        self.assertEqual(weights_of([2, 0, 2, 0, 2, 4], 5), [2, 1, 3, 1, 1])


class Depths(unittest.TestCase):
    def test_by_hand(self):
        self.assertEqual(lengths_of([1, 1, 1]), [2, 2, 1])
        self.assertEqual(lengths_of([1, 1, 1, 1]), [2, 2, 2, 2])
        # 0 and 1 make 5, 2 and 3 make 6; 4 is joined with 5, which has the lower number of 5 and 6.
        self.assertEqual(lengths_of([1, 1, 1, 1, 1]), [3, 3, 2, 2, 2])
        # 1 and 3 make 4; of the three trees of weight 2 the lower numbers, 0 and 2, are joined.
        self.assertEqual(lengths_of([2, 1, 2, 1]), [2, 2, 2, 2])
        # 2 and 3 make 5 of weight 2; of the trees of weight 2, 0 and 1 go first, then 4 and 5.
        self.assertEqual(lengths_of([2, 2, 1, 1, 2]), [2, 2, 3, 3, 2])

    def test_of_equally_heavy_trees_the_lower_numbers(self):
        for count in range(3, 259):
            self.assertEqual(lengths_of([1] * count), plain_lengths([1] * count)[0])
            self.assertEqual(lengths_of([7] * count), plain_lengths([1] * count)[0])

    def test_drawn_weights_with_many_equal_ones(self):
        draws = Draws(41)
        for limit in (2, 3, 5, 20, 1000):
            for _ in range(40):
                weights = [1 + weight for weight in draws.some(3 + draws.below(80), limit)]
                kept = list(weights)
                self.assertEqual(lengths_of(weights), plain_lengths(weights)[0])
                self.assertEqual(weights, kept)


class Halving(unittest.TestCase):
    def test_seventeen_is_kept(self):
        weights = fibonacci(18)
        self.assertEqual(max(depths_of(weights)), 17)
        self.assertEqual(lengths_of(weights), plain_depths(weights))

    def test_eighteen_is_halved_once(self):
        weights = fibonacci(19)
        self.assertEqual(max(depths_of(weights)), 18)
        self.assertEqual(plain_lengths(weights)[1], 1)
        self.assertEqual(lengths_of(weights), plain_depths([weight // 2 + 1 for weight in weights]))
        self.assertLessEqual(max(lengths_of(weights)), 17)

    def test_halved_more_often(self):
        often = []
        for count in range(20, 60):
            weights = fibonacci(count)
            lengths, halved = plain_lengths(weights)
            often.append(halved)
            self.assertEqual(lengths_of(weights), lengths)
            self.assertEqual(lengths_of(weights[::-1]), plain_lengths(weights[::-1])[0])
        self.assertGreater(max(often), 5)
        self.assertIn(3, often)

    def held(self, seed, count, up, down, halvings):
        """Drawn bytes, the lowest ones most often, so that the counts of runs add to those."""
        draws = Draws(seed)
        data = [count - 1 - draw for draw in draws.weighted(100000, steep_weights(count, up, down))]
        stream = write(9, WIDE, data)[1:]
        block = read_stream(stream)["blocks"][0]
        weights = [max(1, block["symbols"].count(symbol)) for symbol in range(len(block["used"]) + 2)]
        lengths, halved = plain_lengths(weights)
        self.assertEqual(halved, halvings)
        self.assertEqual(block["tables"], [lengths, lengths])
        self.assertEqual(stream, plain_stream(9, data, mixed_turns))
        self.assertEqual(bz2.decompress(bytes(stream)), bytes(data))
        return max(plain_depths(weights))

    def test_a_stream_that_needs_just_seventeen(self):
        self.assertEqual(self.held(41, 22, 5, 3, 0), 17)

    def test_a_stream_that_is_halved_for_once(self):
        self.assertEqual(self.held(102, 25, 7, 4, 1), 19)

    def test_a_stream_that_is_halved_for_twice(self):
        self.assertEqual(self.held(112, 23, 7, 4, 2), 19)


class Words(unittest.TestCase):
    def test_by_hand(self):
        self.assertEqual(words_of([2, 2, 1]), [2, 3, 0])
        self.assertEqual(words_of([3, 1, 3, 2]), [6, 0, 7, 2])

    def test_drawn(self):
        draws = Draws(42)
        for _ in range(60):
            lengths = plain_lengths([1 + draws.below(300) for _ in range(3 + draws.below(100))])[0]
            words = [f"{word:0{length}b}" for word, length in zip(words_of(lengths), lengths)]
            self.assertEqual(dict(enumerate(words)), plain_words(lengths))


class Tables(unittest.TestCase):
    def told(self, lengths):
        bits = BitRow()
        put_table(bits, lengths)
        return bits.filled()

    def test_steps_go_straight(self):
        # 2; 2 as it is; two up; as it is; three down.
        self.assertEqual(self.told([2, 4, 4, 1]), packed_bits("00010" + "0" + "10100" + "0" + "1111110"))

    def test_drawn(self):
        draws = Draws(43)
        for _ in range(60):
            lengths = [1 + length for length in draws.some(3 + draws.below(100), 17)]
            self.assertEqual(self.told(lengths), packed_bits(plain_table(lengths)))


class Rows(unittest.TestCase):
    def test_bits_from_the_highest_on(self):
        bits = BitRow()
        self.assertEqual(bits.filled(), [])
        bits.put(1, 1)
        self.assertEqual(bits.filled(), [128])
        bits.put(10, 5)
        self.assertEqual(bits.filled(), [128, 160])
        bits.put(5, 31)
        self.assertEqual(bits.filled(), [128, 191])
        bits.put(48, 0x314159265359)
        self.assertEqual(bits.filled(), [128, 191, 0x31, 0x41, 0x59, 0x26, 0x53, 0x59])
        bits.put(0, 0)
        bits.put(20, 0)
        self.assertEqual(len(bits.filled()), 11)


if __name__ == "__main__":
    unittest.main()
