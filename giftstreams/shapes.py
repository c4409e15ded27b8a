"""What may stand where in rules and tests.

Each thing there is of one KIND: a number, a tuple of things of one kind, or a
part, a tuple that begins with a word, which tells the kinds of what follows.
"""

from giftstreams.wholes import is_whole

# The least and the greatest one; None where there is no such.
NUMBERS = {
    "number": (None, None),
    "divisor": (1, None)}

# The kind of each thing in them, how many there are at least and at most.
TUPLES = {
    "rule": ("rule part", 0, None),
    "test": ("test part", 0, None)}

# The kinds of what follows the word.
PARTS = {
    ("rule part", "add"): ("number",),
    ("rule part", "times"): ("number",),
    ("rule part", "rest"): ("divisor",),
    ("rule part", "one"): (),
    ("rule part", "sum"): (),
    ("test part", "rest"): ("divisor", "number"),
    ("test part", "below"): ("number",),
    ("test part", "after"): ("rule", "test")}


def fits(kind, thing):
    """Tell of anything whether it is a thing of this kind."""
    # No recursion: what is no such thing may be nested deeply.
    to_see = [(kind, thing)]
    while to_see:
        one_kind, one = to_see.pop()
        within = _things_within(one_kind, one)
        if within is None:
            return False
        to_see.extend(within)
    return True


def kinds_behind(kind, word):
    """Tell the kinds of what follows the word in a part of this kind, or
    None where no such part begins with it."""
    if not isinstance(word, str):
        return None
    return PARTS.get((kind, word))


def _things_within(kind, thing):
    """Tell what has to be seen yet, each with its kind, or None where the
    thing is not of this kind, whatever is in it."""
    if kind in NUMBERS:
        least, most = NUMBERS[kind]
        return [] if is_whole(thing) and _is_between(thing, least, most) else None
    if not isinstance(thing, tuple):
        return None
    if kind in TUPLES:
        inner_kind, fewest, most = TUPLES[kind]
        return [(inner_kind, one) for one in thing] if _is_between(len(thing), fewest, most) else None
    return _things_in_part(kind, thing)


def _things_in_part(kind, part):
    kinds = kinds_behind(kind, part[0]) if part else None
    if kinds is None or len(part) != 1 + len(kinds):
        return None
    if kind == "test part" and part[0] == "rest" and not _is_a_rest(part[2], part[1]):
        return None
    return list(zip(kinds, part[1:]))


def _is_between(number, least, most):
    return (least is None or least <= number) and (most is None or number <= most)


def _is_a_rest(rest, divisor):
    return is_whole(rest) and is_whole(divisor) and 0 <= rest < divisor
