"""Rows that can be looked at ahead of the asking."""

from giftstreams.rows import Row, want_free


class Ahead(Row):
    """The answers of the row beneath, the next one to be looked at first."""

    def __init__(self, row):
        Row.__init__(self, [row])
        self._looked_at = None

    def look(self):
        """Tell what it would answer now."""
        want_free([self])
        # As any other answer: the last one ends this row, and if it is over
        # nobody is asked.
        answer = self.told()
        if answer[0] == "gift":
            self._looked_at = answer
        return answer

    def next_answer(self):
        answer = self._looked_at
        if answer is None:
            return self.beneath()[0].told()
        self._looked_at = None
        return answer

    def copy_on(self, rows):
        other = Ahead(rows[0])
        other._looked_at = self._looked_at
        return other
