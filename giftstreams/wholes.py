"""Which things are whole numbers, which of these are counts, and how whole
numbers are written."""

from giftstreams.errors import NoCount


def is_whole(thing):
    """Tell of anything whether it is a whole number."""
    # To Python True and False are ints; to the promises they are none.
    return isinstance(thing, int) and not isinstance(thing, bool)


def want_count(thing, least, most):
    """Refuse anything but a whole number from least to most."""
    if not is_whole(thing) or thing < least or thing > most:
        raise NoCount(f"a whole number from {least} to {most} is wanted")


def number_in_figures(word):
    """Tell the number that is written by this word, or None where the word
    isn't just what is written for a number."""
    figures = word[1:] if word.startswith("-") else word
    if not figures or not all([sign in "0123456789" for sign in figures]):
        return None
    if figures.startswith("0") and word != "0":
        return None
    return int(word)
