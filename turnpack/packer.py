"""Bytes packed in the format of bzip2, always in one way."""

from turnpack.bits import BitRow
from turnpack.block import put_block
from turnpack.runs import blocks_of
from turnpack.sums import block_sum, with_block

OUT_OF_RANGE = -1
TOO_LONG = -3
LOWEST_LEVEL = 1
HIGHEST_LEVEL = 9
HIGHEST_MOST = 268435456
STREAM_NAME = (66, 90, 104)
DIGIT_ZERO = 48
BLOCK_MARK = 0x314159265359
END_MARK = 0x177245385090


def stream_of(level, data):
    """The bytes of the stream that the data is packed into."""
    bits = BitRow()
    for sign in STREAM_NAME:
        bits.put(8, sign)
    bits.put(8, DIGIT_ZERO + level)
    total = 0
    for packed, text in blocks_of(level, data):
        own_sum = block_sum(packed)
        total = with_block(total, own_sum)
        bits.put(48, BLOCK_MARK)
        put_block(bits, own_sum, text)
    bits.put(48, END_MARK)
    bits.put(32, total)
    return bits.filled()


def write(level, most, data):
    """How many bytes the stream has, then these; or a refusal alone."""
    if level < LOWEST_LEVEL or level > HIGHEST_LEVEL or most < 0 or most > HIGHEST_MOST:
        return [OUT_OF_RANGE]
    stream = stream_of(level, data)
    if len(stream) > most:
        return [TOO_LONG]
    return [len(stream)] + stream
