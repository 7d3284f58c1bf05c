"""Bytes taken as runs, and parted into blocks."""

LONGEST_RUN = 255
COUNTED_FROM = 4
LEVEL_STEP = 100000
KEPT_FREE = 19


def run_length(data, start):
    """How long the run is that begins at a place; a longer one is cut at 255."""
    end = min(len(data), start + LONGEST_RUN)
    place = start
    while place < end and data[place] == data[start]:
        place += 1
    return place - start


def run_text(byte, length):
    """A run as it stands in a block's text."""
    if length < COUNTED_FROM:
        return [byte] * length
    return [byte] * COUNTED_FROM + [length - COUNTED_FROM]


def parted(longest, data):
    """The blocks in order, each as a pair: the bytes it stands for, and its text, no longer than told."""
    blocks = []
    text = []
    start = 0
    place = 0
    while place < len(data):
        length = run_length(data, place)
        piece = run_text(data[place], length)
        if len(text) + len(piece) > longest:
            blocks.append((data[start:place], text))
            text = []
            start = place
        text.extend(piece)
        place += length
    if start < len(data):
        blocks.append((data[start:], text))
    return blocks


def blocks_of(level, data):
    """The blocks that the bytes make at a level."""
    return parted(level * LEVEL_STEP - KEPT_FREE, data)
