"""Whole numbers and rows of bytes."""


def is_number(thing):
    """Whether the thing is a whole number, of whatever size."""
    # Python counts True and False among the ints; the document does not.
    return isinstance(thing, int) and not isinstance(thing, bool)


def is_whole(thing, low, high):
    """Whether the thing is a whole number from low to high."""
    return is_number(thing) and low <= thing <= high


def is_bytes(thing):
    """Whether the thing is a list of whole numbers from 0 to 255."""
    if not isinstance(thing, list):
        return False
    for byte in thing:
        if not is_whole(byte, 0, 255):
            return False
    return True
