"""What may stand where in plans, rules and tests.

Each thing there is of one KIND: a number, a word, a tuple of things of one
kind, or a part, a tuple that begins with a word, which tells the kinds of what
follows. A plan is such a part, too.
"""

from giftstreams.wholes import is_whole

LONGEST_WORD = 8

# The least and the greatest one; None where there is no such.
NUMBERS = {
    "number": (None, None),
    "divisor": (1, None),
    "many": (0, 200),
    "size": (1, 20),
    "place": (0, 59)}

# The kind of each thing in them, how many there are at least and at most.
TUPLES = {
    "numbers": ("number", 0, None),
    "rule": ("rule part", 0, None),
    "test": ("test part", 0, None),
    "plans": ("plan", 0, 6),
    "some plans": ("plan", 1, 6)}

# The kinds of what follows the word.
PARTS = {
    ("rule part", "add"): ("number",),
    ("rule part", "times"): ("number",),
    ("rule part", "rest"): ("divisor",),
    ("rule part", "one"): (),
    ("rule part", "sum"): (),
    ("test part", "rest"): ("divisor", "number"),
    ("test part", "below"): ("number",),
    ("test part", "after"): ("rule", "test"),
    ("plan", "list"): ("numbers",),
    ("plan", "broken"): ("numbers", "word"),
    ("plan", "count"): ("number", "number", "many"),
    ("plan", "row"): ("place",),
    ("plan", "turn"): ("rule", "plan"),
    ("plan", "sieve"): ("test", "plan"),
    ("plan", "upto"): ("test", "plan"),
    ("plan", "cut"): ("many", "plan"),
    ("plan", "left"): ("many", "plan"),
    ("plan", "chain"): ("plans",),
    ("plan", "beside"): ("some plans",),
    ("plan", "ahead"): ("plan",),
    ("plan", "windows"): ("size", "size", "plan"),
    ("plan", "marks"): ("divisor", "plan"),
    ("plan", "spare"): ("plan", "plan"),
    ("plan", "wanted"): ("many", "word", "plan")}


def fits(kind, thing):
    """Tell of anything whether it is a thing of this kind."""
    # No recursion: what is no such thing may be nested deeply.
    to_see = [(kind, thing)]
    while to_see:
        one_kind, one = to_see.pop()
        within = _things_within(one_kind, one)
        if within is None:
            return False
        to_see.extend(within)
    return True


def is_word(thing):
    """Tell of anything whether it is a text of one to eight small letters."""
    if not isinstance(thing, str) or not _is_between(len(thing), 1, LONGEST_WORD):
        return False
    return all(["a" <= sign <= "z" for sign in thing])


def kinds_behind(kind, word):
    """Tell the kinds of what follows the word in a part of this kind, or
    None where no such part begins with it."""
    if not isinstance(word, str):
        return None
    return PARTS.get((kind, word))


def inner_plans(plan):
    """Tell the inner plans of a plan, from the left to the right."""
    inner = []
    for kind, thing in zip(kinds_behind("plan", plan[0]), plan[1:]):
        if kind == "plan":
            inner.append(thing)
        elif kind in ("plans", "some plans"):
            inner.extend(thing)
    return inner


def with_inner_plans(plan, inner):
    """Tell the plan with these, as many, in the place of its inner plans."""
    if plan[0] in ("chain", "beside"):
        return (plan[0], tuple(inner))
    # Inner plans stand behind all else.
    return plan[:len(plan) - len(inner)] + tuple(inner)


def _things_within(kind, thing):
    """Tell what has to be seen yet, each with its kind, or None where the
    thing is not of this kind, whatever is in it."""
    if kind in NUMBERS:
        least, most = NUMBERS[kind]
        return [] if is_whole(thing) and _is_between(thing, least, most) else None
    if kind == "word":
        return [] if is_word(thing) else None
    if not isinstance(thing, tuple):
        return None
    if kind in TUPLES:
        inner_kind, fewest, most = TUPLES[kind]
        return [(inner_kind, one) for one in thing] if _is_between(len(thing), fewest, most) else None
    return _things_in_part(kind, thing)


def _things_in_part(kind, part):
    kinds = kinds_behind(kind, part[0]) if part else None
    if kinds is None or len(part) != 1 + len(kinds):
        return None
    if kind == "test part" and part[0] == "rest" and not _is_a_rest(part[2], part[1]):
        return None
    return list(zip(kinds, part[1:]))


def _is_between(number, least, most):
    return (least is None or least <= number) and (most is None or number <= most)


def _is_a_rest(rest, divisor):
    return is_whole(rest) and is_whole(divisor) and 0 <= rest < divisor
