"""Plans as texts, and texts read as plans."""

from giftstreams.errors import NoText
from giftstreams.plans import is_plan, want_plan
from giftstreams.shapes import NUMBERS, TUPLES, kinds_behind
from giftstreams.wholes import number_in_figures


def plan_text(plan):
    """Tell the text of a plan."""
    want_plan(plan)
    words = []
    to_tell = [plan]
    while to_tell:
        thing = to_tell.pop()
        if not isinstance(thing, tuple):
            words.append(str(thing))
            continue
        # Where a part begins with its word, all other tuples begin with how
        # many things are in them.
        if not thing or not isinstance(thing[0], str):
            words.append(str(len(thing)))
        to_tell.extend(thing[::-1])
    return " ".join(words)


def read_plan(text):
    """Tell the plan of which this is the text."""
    if not isinstance(text, str):
        raise NoText("a text is wanted")
    plan = _read(text.split(" "))
    # Numbers beyond their bounds were read, too.
    if not is_plan(plan):
        raise NoText("the text is not that of a plan")
    return plan


class Begun:
    """A tuple that is being read: the kinds of what is to come, the next one
    last, and the things that were read."""

    def __init__(self, kinds, things):
        self.to_come = kinds[::-1]
        self.things = things


def _read(words):
    """Tell what the words tell, or None where they don't tell just one plan."""
    whole = Begun(["plan"], [])
    begun = [whole]
    # Each word is the thing that is to come next, or begins it.
    for word in words:
        if not begun or not _read_word(word, begun, len(words)):
            return None
        _end_what_is_whole(begun)
    return None if begun else whole.things[0]


def _read_word(word, begun, most):
    """Read the next thing, or begin it; tell whether the word may stand there."""
    kind = begun[-1].to_come.pop()
    if kind == "word":
        begun[-1].things.append(word)
        return True
    if kind in NUMBERS or kind in TUPLES:
        return _read_number(number_in_figures(word), kind, begun, most)
    kinds = kinds_behind(kind, word)
    if kinds is None:
        return False
    begun.append(Begun(list(kinds), [word]))
    return True


def _read_number(number, kind, begun, most):
    if number is None:
        return False
    if kind in NUMBERS:
        begun[-1].things.append(number)
        return True
    # More things than words can't follow; the list of their kinds would be
    # as long as the number says.
    if number < 0 or number > most:
        return False
    begun.append(Begun([TUPLES[kind][0]] * number, []))
    return True


def _end_what_is_whole(begun):
    while begun and not begun[-1].to_come:
        things = begun.pop().things
        if begun:
            begun[-1].things.append(tuple(things))
