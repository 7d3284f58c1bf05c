"""A block put behind a row of bits."""

from turnpack.symbols import symbols_of
from turnpack.table import lengths_of, weights_of, words_of
from turnpack.turns import last_column, sorted_turns

TABLES = 2
SYMBOLS_A_CHOICE = 50


def put_used(bits, used):
    """Put which sixteens of bytes are there, and which bytes of those."""
    marks = [0] * 256
    for byte in used:
        marks[byte] = 1
    sixteens = [marks[start:start + 16] for start in range(0, 256, 16)]
    for sixteen in sixteens:
        bits.put(1, max(sixteen))
    for sixteen in sixteens:
        if max(sixteen) == 1:
            for mark in sixteen:
                bits.put(1, mark)


def put_choices(bits, symbols):
    """Put how many tables and choices there are, and the choices."""
    choices = (len(symbols) + SYMBOLS_A_CHOICE - 1) // SYMBOLS_A_CHOICE
    bits.put(3, TABLES)
    bits.put(15, choices)
    # Place 0 in the row is always the first table, so each choice is its closing zero alone.
    bits.put(choices, 0)


def put_table(bits, lengths):
    """Put a table: the first length, then for each symbol the steps to its own."""
    length = lengths[0]
    bits.put(5, length)
    for own in lengths:
        while length < own:
            bits.put(2, 2)
            length += 1
        while length > own:
            bits.put(2, 3)
            length -= 1
        bits.put(1, 0)


def put_symbols(bits, symbols, lengths):
    """Put the word of each symbol."""
    words = words_of(lengths)
    for symbol in symbols:
        bits.put(lengths[symbol], words[symbol])


def put_block(bits, own_sum, text):
    """Put a block, told by its sum and its text of at least one byte."""
    order = sorted_turns(text)
    used = sorted(set(text))
    symbols = symbols_of(last_column(text, order), used)
    lengths = lengths_of(weights_of(symbols, len(used) + 2))
    bits.put(32, own_sum)
    bits.put(1, 0)
    bits.put(24, order.index(0))
    put_used(bits, used)
    put_choices(bits, symbols)
    for table in range(TABLES):
        put_table(bits, lengths)
    put_symbols(bits, symbols, lengths)
