"""The refusals of the program."""


class KnotError(ValueError):
    """Any refusal."""


class NoTree(KnotError):
    """The parents, or the bits, are those of no tree."""


class NoSize(KnotError):
    """The size of a block, or the share of a book, is none."""


class NoBlock(KnotError):
    """The number is that of no block."""


class NoKnot(KnotError):
    """The number is that of no knot, or of no place."""
