"""Bits put one behind another, the highest of each byte first."""


class BitRow:
    """A row of bits that grows at its end."""

    def __init__(self):
        self.whole = []
        self.held = 0
        self.waiting = 0

    def put(self, width, number):
        """Put a number behind the row, in so many bits, its highest bit first."""
        held = (self.held << width) | number
        waiting = self.waiting + width
        while waiting >= 8:
            waiting -= 8
            self.whole.append(held >> waiting)
            held = held & ((1 << waiting) - 1)
        self.held = held
        self.waiting = waiting

    def filled(self):
        """The row as bytes, with bits 0 up to a whole byte."""
        if self.waiting == 0:
            return list(self.whole)
        return self.whole + [self.held << (8 - self.waiting)]
