"""The refusals. All stand straight under GiftError, so that a caller can
catch one sort of them without catching another one by chance."""


class GiftError(ValueError):
    """Any refusal."""


class NoRow(GiftError):
    """What should be a row, or a list of rows, is none."""


class Held(GiftError):
    """The row is held by another one, or stands twice among those handed in."""


class Closed(GiftError):
    """The row is closed."""


class NoNumbers(GiftError):
    """What should be a list of whole numbers is none."""


class NoNumber(GiftError):
    """What should be a whole number is none."""


class NoCount(GiftError):
    """What should be a whole number within limits is none, or beyond them."""


class NoGroup(GiftError):
    """No group was begun yet."""


class NoCopy(GiftError):
    """The row, or one beneath it, can't be copied."""


class NoText(GiftError):
    """What should be a text, or a plan's text, is none."""


class NoPlan(GiftError):
    """What should be a plan is none."""


class NoStep(GiftError):
    """The plan doesn't have this step."""


class NoSay(GiftError):
    """What is said to a desk is none of its rows of words."""


class NoName(GiftError):
    """What should be a name is none, or nothing is kept by it."""


class NoKind(GiftError):
    """The row is of another sort than is asked."""
