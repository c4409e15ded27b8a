"""Which things are whole numbers, and which of these are counts."""

from giftstreams.errors import NoCount


def is_whole(thing):
    """Tell of anything whether it is a whole number."""
    # To Python True and False are ints; to the promises they are none.
    return isinstance(thing, int) and not isinstance(thing, bool)


def want_count(thing, least, most):
    """Refuse anything but a whole number from least to most."""
    if not is_whole(thing) or thing < least or thing > most:
        raise NoCount(f"a whole number from {least} to {most} is wanted")
