"""The book of some bits, what it weighs, and the size of blocks that keeps it small."""

from knotbits.blocks import MOST_SIZE, Blocks
from knotbits.errors import NoSize
from knotbits.walking import heights_along, lowest
from knotbits.whole import is_whole_from

MOST_SHARE = 100


def book_of(bits, size):
    """Give the book: of each block the first height, the least behind a bit, and how often."""
    blocks = Blocks(bits, size)
    book = []
    height = 0
    for number in range(blocks.many()):
        heights = heights_along(height, blocks.part(number))
        least, many = lowest(heights[1:])
        book.append((height, least, many))
        height = heights[-1]
    return book


def width_of(length):
    """Tell how many figures of two the number of bits has."""
    return length.bit_length()


def weight_of(book, length):
    """Tell how much room the numbers of a book need, each as wide as so many bits ask."""
    return 3 * len(book) * width_of(length)


def size_for(length, share):
    """Tell the size of blocks that belongs to a share of so many bits."""
    if not is_whole_from(1, MOST_SHARE, share):
        raise NoSize("a share is a number from 1 to 100")
    # Far more bits than those of a tree would ask for a size that is none.
    return min(3 * width_of(length) * share, MOST_SIZE)
