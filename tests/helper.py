"""What the tests share: draws, a plain writer and a reader of the format, by the document's words alone.

Nothing here is taken from the program, so that the program is held against a second reading of the document.
"""

import zlib
from bisect import bisect_right
from itertools import accumulate, groupby

WIDE = 2 ** 28
BLOCK_MARK = f"{0x314159265359:048b}"
END_MARK = f"{0x177245385090:048b}"


class Draws:
    """Numbers that look mixed and are the same in each run, on each Python."""

    def __init__(self, seed):
        self.state = seed

    def below(self, limit):
        self.state = (self.state * 6364136223846793005 + 1442695040888963407) % 2 ** 64
        return (self.state >> 33) % limit

    def some(self, count, limit):
        return [self.below(limit) for _ in range(count)]

    def weighted(self, count, weights):
        """So many draws of 0, 1, .. by whole weights."""
        ends = list(accumulate(weights))
        return [bisect_right(ends, self.below(ends[-1])) for _ in range(count)]


# The plain writer.

def plain_sum(data):
    """The CRC by way of zlib's, which takes all bits the other way round."""
    turned = bytes(int(f"{byte:08b}"[::-1], 2) for byte in data)
    return int(f"{zlib.crc32(turned):032b}"[::-1], 2)


def plain_total(sums):
    total = 0
    for own in sums:
        bits = f"{total:032b}"
        total = int(bits[1:] + bits[0], 2) ^ own
    return total


def plain_blocks(level, data):
    """Pairs of a block's bytes and its text."""
    runs = []
    for byte, group in groupby(data):
        left = len(list(group))
        while left > 0:
            runs.append((byte, min(left, 255)))
            left -= min(left, 255)
    blocks = []
    for byte, length in runs:
        text = [byte] * length if length <= 3 else [byte] * 4 + [length - 4]
        if not blocks or len(blocks[-1][1]) + len(text) > level * 100000 - 19:
            blocks.append(([], []))
        blocks[-1][0].extend([byte] * length)
        blocks[-1][1].extend(text)
    return blocks


def plain_turns(text):
    """Each turn written out; for short texts."""
    row = bytes(text)
    return sorted(range(len(row)), key=lambda start: (row[start:] + row[:start], start))


def mixed_turns(text):
    """For long mixed texts, whose turns all differ within their first 200 bytes."""
    row = bytes(text) + bytes(text[:200])
    starts = [row[start:start + 200] for start in range(len(text))]
    if len(set(starts)) < len(text):
        raise ValueError("two turns begin alike")
    return sorted(range(len(text)), key=lambda start: starts[start])


def periodic_turns(period):
    """For a text that is its first bytes over and over, so many at a time."""
    def turns(text):
        if text != text[:period] * (len(text) // period):
            raise ValueError("not that period")
        firsts = plain_turns(text[:period])
        return [start for first in firsts for start in range(first, len(text), period)]
    return turns


def plain_symbols(column):
    row = sorted(set(column))
    places = []
    for byte in column:
        places.append(row.index(byte))
        row = [byte] + [other for other in row if other != byte]
    symbols = []
    for place, group in groupby(places):
        count = len(list(group))
        if place == 0:
            # The digits 1 and 2 of a number are the bits of the number and 1, less the first bit.
            symbols.extend(int(bit) for bit in reversed(f"{count + 1:b}"[1:]))
        else:
            symbols.extend([place + 1] * count)
    return symbols + [len(row) + 1]


def plain_depths(weights):
    trees = [(weight, number, {number: 0}) for number, weight in enumerate(weights)]
    number = len(weights)
    while len(trees) > 1:
        first = min(trees, key=lambda tree: tree[:2])
        trees.remove(first)
        second = min(trees, key=lambda tree: tree[:2])
        trees.remove(second)
        below = {symbol: depth + 1 for symbol, depth in {**first[2], **second[2]}.items()}
        trees.append((first[0] + second[0], number, below))
        number += 1
    return [trees[0][2][symbol] for symbol in range(len(weights))]


def plain_lengths(weights):
    """The lengths, and how often the weights were halved for them."""
    halved = 0
    depths = plain_depths(weights)
    while max(depths) > 17:
        weights = [weight // 2 + 1 for weight in weights]
        depths = plain_depths(weights)
        halved += 1
    return depths, halved


def plain_words(lengths):
    """Canonical words as texts of bits."""
    words = {}
    behind = 0
    for length, symbol in sorted((length, symbol) for symbol, length in enumerate(lengths)):
        words[symbol] = f"{behind >> (32 - length):0{length}b}"
        behind += 1 << (32 - length)
    return words


def plain_table(lengths):
    bits = f"{lengths[0]:05b}"
    for before, length in zip(lengths[:1] + lengths, lengths):
        bits += "10" * (length - before) + "11" * (before - length) + "0"
    return bits


def plain_block(data, text, turns):
    order = turns(text)
    symbols = plain_symbols([text[start - 1] for start in order])
    there = "".join("1" if byte in set(text) else "0" for byte in range(256))
    sixteens = [there[start:start + 16] for start in range(0, 256, 16)]
    lengths, _ = plain_lengths([max(1, symbols.count(symbol)) for symbol in range(len(set(text)) + 2)])
    words = plain_words(lengths)
    choices = -(-len(symbols) // 50)
    return "".join([
        f"{plain_sum(data):032b}", "0", f"{order.index(0):024b}",
        "".join("1" if "1" in sixteen else "0" for sixteen in sixteens),
        "".join(sixteen for sixteen in sixteens if "1" in sixteen),
        "010", f"{choices:015b}", "0" * choices, plain_table(lengths) * 2,
        "".join(words[symbol] for symbol in symbols)])


def packed_bits(bits):
    """Bits as bytes, with bits 0 up to a whole one."""
    bits += "0" * (-len(bits) % 8)
    return [int(bits[start:start + 8], 2) for start in range(0, len(bits), 8)]


def plain_stream(level, data, turns=plain_turns):
    """The stream as the document asks for it, slowly."""
    blocks = plain_blocks(level, data)
    bits = "".join(f"{sign:08b}" for sign in b"BZh" + str(level).encode())
    for packed, text in blocks:
        bits += BLOCK_MARK + plain_block(packed, text, turns)
    total = plain_total([plain_sum(packed) for packed, _ in blocks])
    return packed_bits(bits + END_MARK + f"{total:032b}")


# The reader.

class Bits:
    def __init__(self, stream):
        self.row = "".join(f"{byte:08b}" for byte in stream)
        self.at = 0

    def take(self, width):
        if self.at + width > len(self.row):
            raise ValueError("the stream ends too early")
        self.at += width
        return self.row[self.at - width:self.at]

    def number(self, width):
        return int(self.take(width), 2)


def must(held, what):
    if not held:
        raise ValueError(what)


def read_used(bits):
    sixteens = bits.take(16)
    used = []
    for place, mark in enumerate(sixteens):
        if mark == "1":
            marks = bits.take(16)
            must("1" in marks, "a sixteen without a byte")
            used.extend(16 * place + low for low, own in enumerate(marks) if own == "1")
    must(used, "no byte is there")
    return used


def read_choice(bits, tables):
    place = 0
    while bits.take(1) == "1":
        place += 1
        must(place < tables, "a choice beyond the tables")
    return place


def read_table(bits, count):
    length = bits.number(5)
    lengths = []
    for _ in range(count):
        must(1 <= length <= 20, "a length out of range")
        while bits.take(1) == "1":
            length += 1 if bits.take(1) == "0" else -1
            must(1 <= length <= 20, "a length out of range")
        lengths.append(length)
    must(sum(2 ** (20 - length) for length in lengths) == 2 ** 20, "a code that is not whole")
    return lengths


def read_symbols(bits, block, row, last):
    """Fifty symbols by each choice, up to the last symbol."""
    words = [{word: symbol for symbol, word in plain_words(lengths).items()} for lengths in block["tables"]]
    symbols = []
    for choice in block["choices"]:
        row.insert(0, row.pop(choice))
        for _ in range(50):
            word = bits.take(1)
            while word not in words[row[0]]:
                word += bits.take(1)
            symbols.append(words[row[0]][word])
            if symbols[-1] == last:
                break
        if symbols[-1] == last:
            break
    must(symbols[-1] == last, "no last symbol")
    must(-(-len(symbols) // 50) == len(block["choices"]), "choices that are not needed")
    return symbols


def said_column(symbols, used):
    row = list(used)
    column = []
    weight = 1
    for symbol in symbols[:-1]:
        if symbol < 2:
            column.extend([row[0]] * ((symbol + 1) * weight))
            weight *= 2
        else:
            weight = 1
            row.insert(0, row.pop(symbol - 1))
            column.append(row[0])
    return column


def turned_back(column, place):
    """The text, and at which place of the sorted turns each of its turns lies."""
    order = sorted(range(len(column)), key=lambda at: (column[at], at))
    text = []
    places = []
    for _ in column:
        places.append(place)
        place = order[place]
        text.append(column[place])
    return text, places


def spread(text):
    """The bytes that a text's runs stand for."""
    data = []
    run = 0
    for place, byte in enumerate(text):
        if run == 4:
            data.extend([text[place - 1]] * byte)
            run = 0
        else:
            run = run + 1 if run > 0 and text[place - 1] == byte else 1
            data.append(byte)
    must(run < 4, "a text that ends right behind the four")
    return data


def read_block(bits, level):
    block = {"sum": bits.number(32)}
    must(bits.take(1) == "0", "a bit that is not 0")
    block["place"] = bits.number(24)
    block["used"] = read_used(bits)
    tables = bits.number(3)
    must(2 <= tables <= 6, "so many tables")
    choices = bits.number(15)
    must(choices > 0, "no choices")
    block["choices"] = [read_choice(bits, tables) for _ in range(choices)]
    block["tables"] = [read_table(bits, len(block["used"]) + 2) for _ in range(tables)]
    block["symbols"] = read_symbols(bits, block, list(range(tables)), len(block["used"]) + 1)
    block["column"] = said_column(block["symbols"], block["used"])
    must(len(block["column"]) <= level * 100000, "a block too long")
    must(block["place"] < len(block["column"]), "a place beyond the column")
    block["text"], block["places"] = turned_back(block["column"], block["place"])
    block["data"] = spread(block["text"])
    must(block["sum"] == plain_sum(block["data"]), "a wrong sum of a block")
    return block


def read_stream(stream):
    """The blocks of a stream, and its level and sum; ValueError where it is not of the format."""
    bits = Bits(stream)
    must(bits.take(24) == "".join(f"{sign:08b}" for sign in b"BZh"), "not BZh")
    level = bits.number(8) - 48
    must(1 <= level <= 9, "no such level")
    blocks = []
    mark = bits.take(48)
    while mark == BLOCK_MARK:
        blocks.append(read_block(bits, level))
        mark = bits.take(48)
    must(mark == END_MARK, "neither a block nor the end")
    total = bits.number(32)
    must(total == plain_total([block["sum"] for block in blocks]), "a wrong sum of all blocks")
    rest = bits.row[bits.at:]
    must(len(rest) < 8 and "1" not in rest, "more behind the end")
    return {"level": level, "blocks": blocks, "sum": total}
