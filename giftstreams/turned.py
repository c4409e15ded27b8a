"""Rows of gifts that a function turns into others, or lets through."""

from giftstreams.rows import Row


class Turned(Row):
    """For each gift of the row beneath what a function tells of it."""

    def __init__(self, row, turn):
        Row.__init__(self, [row])
        self._turn = turn

    def next_answer(self):
        answer = self.beneath()[0].told()
        if answer[0] != "gift":
            return answer
        turn = self._turn
        return ("gift", turn(answer[1]))

    def copy_on(self, rows):
        return Turned(rows[0], self._turn)


class Sieved(Row):
    """Those gifts of the row beneath of which a function tells True."""

    def __init__(self, row, test):
        Row.__init__(self, [row])
        self._test = test

    def next_answer(self):
        row = self.beneath()[0]
        test = self._test
        answer = row.told()
        while answer[0] == "gift" and not test(answer[1]):
            answer = row.told()
        return answer

    def copy_on(self, rows):
        return Sieved(rows[0], self._test)
