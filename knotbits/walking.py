"""Ways along the bits, by the book and the few blocks that have to be read.

A block that was read is a list of heights: that at its first place, then those behind its bits.
So the height behind the last bit stands in it, too, which is that at the next block's first place.
"""


def heights_along(height, text):
    """List the height ahead of some bits, then the height behind each of them."""
    heights = [height]
    for bit in text:
        height += 1 if bit == "1" else -1
        heights.append(height)
    return heights


def heights_in(book, blocks, number):
    """List the heights of a block, which is asked for."""
    return heights_along(book[number][0], blocks.part(number))


def lowest(heights):
    """Tell the least of some heights, and how often it comes among them."""
    least = min(heights)
    return (least, heights.count(least))


def knots_ahead(place, height):
    """Tell how many knots have their places ahead of a place of this height."""
    # As many bits stand ahead as the place tells, and the height tells how many more are `1`.
    return (place + height) // 2


def bit_at(blocks, place):
    """Tell the bit at a place, whose block is asked for."""
    number, at = divmod(place, blocks.size)
    return blocks.part(number)[at]


def height_at(book, blocks, place):
    """Tell the height at a place, whose block is asked for."""
    number, at = divmod(place, blocks.size)
    return heights_in(book, blocks, number)[at]


def spot_of(book, blocks, knot):
    """Tell a knot's place and its depth; the place's block is asked for."""
    number = _block_of_knot(book, blocks.size, knot)
    first = number * blocks.size
    text = blocks.part(number)
    at = text.find("1")
    for _ in range(knot - knots_ahead(first, book[number][0])):
        at = text.find("1", at + 1)
    place = first + at
    # As many `1` as the knot's number tells stand ahead of its place, all else there are `0`.
    return (place, 2 * knot - place)


def knot_back(book, blocks, place, height):
    """Tell the knot at the last place of this height that is not behind the place told.

    The place told is no lower than that. Its block is asked for, and one ahead of it at most.
    """
    number, at = divmod(place, blocks.size)
    heights = heights_in(book, blocks, number)[:at + 1]
    if height not in heights:
        number = _block_back(book, number, height)
        heights = heights_in(book, blocks, number)
    step = len(heights) - 1 - heights[::-1].index(height)
    return knots_ahead(number * blocks.size + step, height)


def end_of(book, blocks, place, depth):
    """Tell the end of the knot of this place and depth.

    The place's block is asked for, and one behind it at most.
    """
    number, at = divmod(place, blocks.size)
    behind = heights_in(book, blocks, number)[at + 1:]
    if depth in behind:
        return place + behind.index(depth)
    number = _block_on(book, number, depth)
    behind = heights_in(book, blocks, number)[1:]
    return number * blocks.size + behind.index(depth)


def lows_between(book, blocks, first, end):
    """List the lowest heights behind the bits from one place on and ahead of another, by blocks.

    It has the number of each block with such bits, the least height, and how often that comes.
    Only the blocks of the two places may be asked for: of those between them the book tells.
    """
    size = blocks.size
    rows = []
    for number in range(first // size, (end - 1) // size + 1):
        start = number * size
        if first <= start and start + size <= end:
            least, many = book[number][1:]
        else:
            behind = heights_in(book, blocks, number)[1:]
            least, many = lowest(behind[max(first - start, 0):end - start])
        rows.append((number, least, many))
    return rows


def places_behind(book, blocks, number, first, height):
    """List the places of this height behind the bits of a block, those behind the first told.

    The block is asked for.
    """
    start = number * blocks.size
    heights = heights_in(book, blocks, number)
    steps = range(max(first - start, 0) + 1, len(heights))
    return [start + step for step in steps if heights[step] == height]


def _block_of_knot(book, size, knot):
    """Tell the number of the block that has the knot's place."""
    low = 0
    high = len(book)
    while high - low > 1:
        middle = (low + high) // 2
        if knots_ahead(middle * size, book[middle][0]) > knot:
            high = middle
        else:
            low = middle
    return low


def _block_back(book, number, height):
    """Tell the last block ahead of this one that has a place of this height, or a lower one."""
    number -= 1
    while min(book[number][0], book[number][1]) > height:
        number -= 1
    return number


def _block_on(book, number, height):
    """Tell the first block behind this one with a bit behind which it is so high, or lower."""
    number += 1
    while book[number][1] > height:
        number += 1
    return number
