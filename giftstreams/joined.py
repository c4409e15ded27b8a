"""Several rows put one behind another, or side by side."""

from giftstreams.rows import Row, want_free
from giftstreams.wholes import want_count

MOST_JOINED = 6


class Chained(Row):
    """The gifts of the first row, behind its end those of the next one."""

    def __init__(self, rows):
        want_free(rows)
        want_count(len(rows), 0, MOST_JOINED)
        Row.__init__(self, rows)

    def next_answer(self):
        # Those that have ended are over: they tell the end again and ask nobody.
        for row in self.beneath():
            answer = row.told()
            if answer[0] != "end":
                return answer
        return ("end",)

    def copy_on(self, rows):
        return Chained(rows)


class Beside(Row):
    """The tuples of the gifts that the rows tell at the same asking."""

    def __init__(self, rows):
        want_free(rows)
        want_count(len(rows), 1, MOST_JOINED)
        Row.__init__(self, rows)

    def next_answer(self):
        gifts = []
        for row in self.beneath():
            answer = row.told()
            if answer[0] != "gift":
                return answer
            gifts.append(answer[1])
        return ("gift", tuple(gifts))

    def copy_on(self, rows):
        return Beside(rows)
