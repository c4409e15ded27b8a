"""Rows of groups: neighbours with equal marks."""

from giftstreams.errors import NoGroup
from giftstreams.rows import Row, want_free


class Groups(Row):
    """The marks of the groups; the newest group is told as a row.

    What is drawn of the row beneath is drawn by next_of_newest, whether the
    newest group is asked or passed over: it finds where the next one begins.
    """

    def __init__(self, row, mark):
        Row.__init__(self, [row])
        self._mark = mark
        self._newest = None
        self._newest_mark = None
        self._next_first = None

    def group(self):
        """Tell the newest group."""
        want_free([self])
        if self._newest is None:
            raise NoGroup("no group was begun yet")
        return self._newest

    def next_answer(self):
        while self._next_first is None:
            answer = self.next_of_newest()
            if self.is_over():
                return answer
        self._end_newest()
        first, self._newest_mark = self._next_first
        self._next_first = None
        self._newest = Group(self, first)
        return ("gift", self._newest_mark)

    def next_of_newest(self):
        """For the newest group: its next answer. The gift of another mark
        that ends it is kept, the last answer of the row beneath ends both."""
        answer = self.beneath()[0].told()
        if answer[0] != "gift":
            self.end_it()
            return answer
        mark = self._mark
        told_mark = mark(answer[1])
        if told_mark == self._newest_mark:
            return answer
        self._next_first = (answer[1], told_mark)
        return ("end",)

    def end_it(self):
        super().end_it()
        self._end_newest()

    def at_close(self):
        self._end_newest()

    def _end_newest(self):
        if self._newest is not None:
            self._newest.end_it()

    def copy_on(self, rows):
        other = Groups(rows[0], self._mark)
        other._newest_mark = self._newest_mark
        other._next_first = self._next_first
        if self._newest is not None:
            other._newest = self._newest.copy_for(other)
        return other


class Group(Row):
    """Neighbours with one mark, of which Groups tells the row."""

    def __init__(self, groups, first):
        Row.__init__(self, [])
        self._groups = groups
        self._first = first
        self._first_was_told = False

    def groups(self):
        """Tell the Groups by which it was made."""
        return self._groups

    def next_answer(self):
        if self._first_was_told:
            return self._groups.next_of_newest()
        self._first_was_told = True
        return ("gift", self._first)

    def may_copy(self):
        return False

    def copy_for(self, groups):
        """For Groups as they are copied: a free group that stands as this one."""
        other = Group(groups, self._first)
        other._first_was_told = self._first_was_told
        if self.is_over():
            other.end_it()
        if self.is_closed():
            other.shut()
        return other
