"""Trees as plain lists of parents, and as bits, two for each knot."""

from knotbits.errors import NoTree
from knotbits.whole import is_whole

MOST_KNOTS = 2000


def is_tree(parents):
    """Tell whether this is the list of parents of a tree."""
    return _bits_of(parents) is not None


def pressed(parents):
    """Give the bits of the tree that has these parents."""
    bits = _bits_of(parents)
    if bits is None:
        raise NoTree("these are the parents of no tree")
    return bits


def plain(bits):
    """Give the list of parents of the tree that has these bits."""
    parents = _parents_of(bits)
    if parents is None:
        raise NoTree("these are the bits of no tree")
    return parents


def _bits_of(parents):
    """Give the bits that belong to the parents, or None where they are those of no tree."""
    if not isinstance(parents, list) or not 1 <= len(parents) <= MOST_KNOTS:
        return None
    if parents[0] is not None:
        return None
    pieces = ["1"]
    # The knots that are not done yet: the knot ahead, and before it its elders.
    pending = [0]
    for knot in range(1, len(parents)):
        parent = parents[knot]
        if not is_whole(parent):
            return None
        while pending and pending[-1] != parent:
            pending.pop()
            pieces.append("0")
        if not pending:
            return None
        pending.append(knot)
        pieces.append("1")
    pieces.append("0" * len(pending))
    return "".join(pieces)


def _parents_of(bits):
    """Give the parents that belong to the bits, or None where they are those of no tree."""
    if not isinstance(bits, str) or not 1 <= len(bits) <= 2 * MOST_KNOTS:
        return None
    parents = []
    pending = []
    for bit in bits:
        # Nothing may follow once the knot nought is done.
        if parents and not pending:
            return None
        if bit == "1":
            knot = len(parents)
            parents.append(pending[-1] if pending else None)
            pending.append(knot)
        elif bit == "0" and pending:
            pending.pop()
        else:
            return None
    if pending:
        return None
    return parents
