"""Answers about a tree, by its book and by few blocks of its bits."""

from knotbits.errors import NoKnot
from knotbits.walking import bit_at, end_of, height_at, knot_back, knots_ahead, lows_between, places_behind, spot_of
from knotbits.whole import is_whole_from


def place_of(book, blocks, knot):
    """Tell the knot's place."""
    _look_at_knot(blocks, knot)
    return spot_of(book, blocks, knot)[0]


def depth_of(book, blocks, knot):
    """Tell the knot's depth."""
    _look_at_knot(blocks, knot)
    return spot_of(book, blocks, knot)[1]


def knot_at(book, blocks, place):
    """Tell the knot whose place, or whose end, this is."""
    if not is_whole_from(0, blocks.length - 1, place):
        raise NoKnot("there is no place of this number")
    height = height_at(book, blocks, place)
    if bit_at(blocks, place) == "1":
        return knots_ahead(place, height)
    return knot_back(book, blocks, place, height - 1)


def above(book, blocks, knot):
    """Tell the knot's parent, or None."""
    _look_at_knot(blocks, knot)
    place, depth = spot_of(book, blocks, knot)
    if depth == 0:
        return None
    return knot_back(book, blocks, place, depth - 1)


def beneath(book, blocks, knot):
    """Tell how many knots have the knot as an elder."""
    _look_at_knot(blocks, knot)
    place, depth = spot_of(book, blocks, knot)
    return (end_of(book, blocks, place, depth) - place) // 2


def beside(book, blocks, knot):
    """Tell the next child of the knot's parent, or None."""
    _look_at_knot(blocks, knot)
    place, depth = spot_of(book, blocks, knot)
    following = end_of(book, blocks, place, depth) + 1
    if following == blocks.length or bit_at(blocks, following) == "0":
        return None
    return knots_ahead(following, depth)


def kids(book, blocks, knot):
    """Tell how many children the knot has."""
    _look_at_knot(blocks, knot)
    place, depth = spot_of(book, blocks, knot)
    return _many_kids(_gaps_of(book, blocks, place, depth))


def kid(book, blocks, knot, number):
    """Tell the child that has so many of the knot's children ahead, or None."""
    _look_at_knot(blocks, knot)
    place, depth = spot_of(book, blocks, knot)
    gaps = _gaps_of(book, blocks, place, depth)
    if not 0 <= number < _many_kids(gaps):
        return None
    # The child's place is behind the gap that has as many gaps ahead as it has children.
    block, ahead = _find_gap(gaps, number)
    places = places_behind(book, blocks, block, place, depth + 1)
    return knots_ahead(places[ahead], depth + 1)


def elder(book, blocks, one, other):
    """Tell the deepest knot that is one of both, or an elder of it, and the same to the other."""
    _look_at_knot(blocks, one)
    _look_at_knot(blocks, other)
    if one == other:
        return one
    first = spot_of(book, blocks, min(one, other))[0]
    last = spot_of(book, blocks, max(one, other))[0]
    # From the one to the other the way comes down to the children of the knot asked for.
    least = min([row[1] for row in lows_between(book, blocks, first, last)])
    return knot_back(book, blocks, first, least - 1)


def _look_at_knot(blocks, knot):
    """Refuse what is the number of no knot."""
    if not is_whole_from(0, blocks.length // 2 - 1, knot):
        raise NoKnot("there is no knot of this number")


def _gaps_of(book, blocks, place, depth):
    """List the blocks that have gaps of the knot of this place and depth, each with how many.

    A gap is where the height is one more than the knot's depth: behind its own `1`, and behind
    the end of each of its children. Within the knot the height is nowhere less.
    """
    end = end_of(book, blocks, place, depth)
    rows = lows_between(book, blocks, place, end)
    return [(number, many) for number, least, many in rows if least == depth + 1]


def _many_kids(gaps):
    """Tell how many children there are between all these gaps."""
    return sum([row[1] for row in gaps]) - 1


def _find_gap(gaps, ahead):
    """Tell the block of the gap that has so many ahead, and how many of these are in the block."""
    at = 0
    while ahead >= gaps[at][1]:
        ahead -= gaps[at][1]
        at += 1
    return (gaps[at][0], ahead)
