"""Rows of which only the beginning, or all but the beginning, is told."""

from giftstreams.rows import Row, want_free
from giftstreams.wholes import want_count

MOST_CUT = 200


class Cut(Row):
    """The first n gifts of the row beneath."""

    def __init__(self, row, n):
        want_free([row])
        want_count(n, 0, MOST_CUT)
        Row.__init__(self, [row])
        self._to_come = n

    def next_answer(self):
        if self._to_come == 0:
            return ("end",)
        self._to_come -= 1
        return self.beneath()[0].told()

    def copy_on(self, rows):
        return Cut(rows[0], self._to_come)


class Left(Row):
    """The gifts of the row beneath that stand behind the first n."""

    def __init__(self, row, n):
        want_free([row])
        want_count(n, 0, MOST_CUT)
        Row.__init__(self, [row])
        self._to_leave = n

    def next_answer(self):
        row = self.beneath()[0]
        while self._to_leave > 0:
            self._to_leave -= 1
            answer = row.told()
            if answer[0] != "gift":
                return answer
        return row.told()

    def copy_on(self, rows):
        return Left(rows[0], self._to_leave)


class Upto(Row):
    """The gifts of the row beneath, as long as a function tells True."""

    def __init__(self, row, test):
        Row.__init__(self, [row])
        self._test = test

    def next_answer(self):
        answer = self.beneath()[0].told()
        test = self._test
        if answer[0] == "gift" and not test(answer[1]):
            return ("end",)
        return answer

    def copy_on(self, rows):
        return Upto(rows[0], self._test)
