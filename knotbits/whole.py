"""What counts as a number, for the package's own use."""


def is_whole(thing):
    """Tell whether the thing is a whole number."""
    # Python counts True and False among its integers, the document does not.
    return isinstance(thing, int) and not isinstance(thing, bool)


def is_whole_from(least, most, thing):
    """Tell whether the thing is a whole number from least to most, both included."""
    return is_whole(thing) and least <= thing <= most
