"""Rows of windows: tuples of gifts that stand one behind another."""

from giftstreams.rows import Row, want_free
from giftstreams.wholes import want_count

WIDEST = 20


class Windows(Row):
    """Tuples of as many gifts as the size, each so many gifts further than
    the one ahead of it as the step is."""

    def __init__(self, row, size, step):
        want_free([row])
        want_count(size, 1, WIDEST)
        want_count(step, 1, WIDEST)
        Row.__init__(self, [row])
        self._size = size
        self._step = step
        self._begun = []
        self._to_pass = 0

    def next_answer(self):
        row = self.beneath()[0]
        while len(self._begun) < self._size:
            answer = row.told()
            if answer[0] != "gift":
                return answer
            if self._to_pass > 0:
                self._to_pass -= 1
            else:
                self._begun.append(answer[1])
        window = tuple(self._begun)
        self._begun = self._begun[self._step:]
        self._to_pass = max(0, self._step - self._size)
        return ("gift", window)

    def copy_on(self, rows):
        other = Windows(rows[0], self._size, self._step)
        other._begun = list(self._begun)
        other._to_pass = self._to_pass
        return other
