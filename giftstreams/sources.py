"""Rows that hold nothing: from a list, counted on, told by a function."""

from giftstreams.errors import NoNumber, NoNumbers
from giftstreams.rows import Row
from giftstreams.wholes import is_whole, want_count

MOST_COUNTED = 200


class Listed(Row):
    """The numbers of a list, then the end."""

    def __init__(self, numbers):
        if not isinstance(numbers, list) or not all([is_whole(number) for number in numbers]):
            raise NoNumbers("a list of whole numbers is wanted")
        Row.__init__(self, [])
        self._numbers = list(numbers)
        self._drawn = 0

    def drawn(self):
        """Tell how many answers it told while it was not over yet."""
        return self._drawn

    def next_answer(self):
        at = self._drawn
        self._drawn += 1
        if at < len(self._numbers):
            return ("gift", self._numbers[at])
        return ("end",)

    def copy_on(self, rows):
        other = Listed(self._numbers)
        other._drawn = self._drawn
        return other


class Counted(Row):
    """So many numbers, from the first one on by equal steps, then the end."""

    def __init__(self, first, step, many):
        if not is_whole(first) or not is_whole(step):
            raise NoNumber("the first number and the step are whole numbers")
        want_count(many, 0, MOST_COUNTED)
        Row.__init__(self, [])
        self._first = first
        self._step = step
        self._many = many
        self._drawn = 0

    def drawn(self):
        """Tell how many answers it told while it was not over yet."""
        return self._drawn

    def next_answer(self):
        at = self._drawn
        self._drawn += 1
        if at < self._many:
            return ("gift", self._first + at * self._step)
        return ("end",)

    def copy_on(self, rows):
        other = Counted(self._first, self._step, self._many)
        other._drawn = self._drawn
        return other


class ToldBy(Row):
    """What a function tells of 0, 1, 2 and so on."""

    def __init__(self, tell, at_end):
        Row.__init__(self, [])
        self._tell = tell
        self._at_end = at_end
        self._drawn = 0

    def drawn(self):
        """Tell how many answers it told while it was not over yet."""
        return self._drawn

    def next_answer(self):
        tell = self._tell
        answer = tell(self._drawn)
        self._drawn += 1
        return answer

    def at_close(self):
        at_end = self._at_end
        at_end()

    def copy_on(self, rows):
        other = ToldBy(self._tell, self._at_end)
        other._drawn = self._drawn
        return other
