"""Bits cut into blocks, and which of the blocks were asked for."""

from knotbits.errors import NoBlock, NoSize
from knotbits.whole import is_whole_from

MOST_SIZE = 4000


class Blocks:
    """The blocks of some bits; it tells their texts, and remembers which it told."""

    def __init__(self, bits, size):
        if not is_whole_from(1, MOST_SIZE, size):
            raise NoSize("the size of a block is a number from 1 to 4000")
        self.length = len(bits)
        self.size = size
        self._parts = [bits[first:first + size] for first in range(0, len(bits), size)]
        # A dict rather than a list: it keeps the order, and each number once.
        self._told = {}

    def many(self):
        """Tell how many blocks there are."""
        return len(self._parts)

    def part(self, number):
        """Tell the text of a block."""
        if not is_whole_from(0, len(self._parts) - 1, number):
            raise NoBlock("there is no block of this number")
        self._told[number] = True
        return self._parts[number]

    def asked(self):
        """List the numbers of the blocks that were told, in the order of first asking."""
        return list(self._told)
