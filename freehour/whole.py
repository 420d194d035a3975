"""What is a whole number."""


def is_whole(thing, low, high):
    """Tell whether the thing is a whole number from low to high."""
    # Python takes True and False for numbers, the document does not.
    return isinstance(thing, int) and not isinstance(thing, bool) and low <= thing <= high
