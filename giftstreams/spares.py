"""Rows that turn a fault into something else, or an early end into a fault."""

from giftstreams.errors import NoText
from giftstreams.rows import Row, want_free
from giftstreams.wholes import want_count

MOST_WANTED = 200


class Spare(Row):
    """The answers of a row, and in the place of its fault those of another one."""

    def __init__(self, row, other):
        Row.__init__(self, [row, other])
        self._noted = None

    def noted(self):
        """Tell the word of the first row's fault, or None where it told none."""
        return self._noted

    def next_answer(self):
        row, other = self.beneath()
        # Once the fault is noted the first row isn't asked: it would tell its end.
        if self._noted is None:
            answer = row.told()
            if answer[0] != "fault":
                return answer
            self._noted = answer[1]
        return other.told()

    def copy_on(self, rows):
        spare = Spare(rows[0], rows[1])
        spare._noted = self._noted
        return spare


class Wanted(Row):
    """The answers of the row beneath, and a fault in the place of its end
    where fewer than n gifts were told."""

    def __init__(self, row, n, word):
        want_free([row])
        want_count(n, 0, MOST_WANTED)
        if not isinstance(word, str):
            raise NoText("the word of a fault is a text")
        Row.__init__(self, [row])
        self._lacking = n
        self._word = word

    def next_answer(self):
        answer = self.beneath()[0].told()
        if answer[0] == "gift":
            self._lacking = max(0, self._lacking - 1)
        elif answer[0] == "end" and self._lacking > 0:
            return ("fault", self._word)
        return answer

    def copy_on(self, rows):
        # What it lacks still counts the gifts that were told ahead of the copy.
        return Wanted(rows[0], self._lacking, self._word)
