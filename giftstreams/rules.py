"""Rules, which make one gift of another, and tests, which hold of a gift or
don't."""

from giftstreams.shapes import fits


def is_rule(thing):
    """Tell of anything whether it is a rule."""
    return fits("rule", thing)


def is_test(thing):
    """Tell of anything whether it is a test."""
    return fits("test", thing)


def rule_told(rule, gift):
    """Tell what the rule makes of the gift."""
    for part in rule:
        gift = _done(part, gift)
    return gift


def test_told(test, gift):
    """Tell whether the test holds of the gift."""
    return all([_holds(part, gift) for part in test])


def sum_of(gift):
    """Tell the sum of all numbers in the gift, however deep."""
    if isinstance(gift, tuple):
        return sum([sum_of(part) for part in gift])
    return gift


def _done(part, gift):
    if part[0] == "one":
        return (gift,)
    if part[0] == "sum":
        return sum_of(gift)
    if isinstance(gift, tuple):
        return tuple([_done(part, inner) for inner in gift])
    if part[0] == "add":
        return gift + part[1]
    if part[0] == "times":
        return gift * part[1]
    return gift % part[1]


def _holds(part, gift):
    if part[0] == "after":
        return test_told(part[2], rule_told(part[1], gift))
    if part[0] == "below":
        return sum_of(gift) < part[1]
    return sum_of(gift) % part[1] == part[2]
