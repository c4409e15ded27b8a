"""Several readers of one row."""

from giftstreams.rows import Row, want_free
from giftstreams.wholes import want_count

MOST_READERS = 6


def split(row, many):
    """Tell so many readers of the row."""
    want_free([row])
    want_count(many, 1, MOST_READERS)
    shared = Shared(row)
    return [Reader(shared, 0) for _ in range(many)]


class Shared(Row):
    """What the readers of a split have in common: it holds the row that was
    split, and nobody but they sees it.

    No drawn gift is thrown away: a closed reader that is held can still be
    copied by its holder, and the copy has all gifts still to come.
    """

    def __init__(self, row):
        Row.__init__(self, [row])
        self._drawn_gifts = []
        self._readers = []

    def next_answer(self):
        answer = self.beneath()[0].told()
        if answer[0] == "gift":
            self._drawn_gifts.append(answer[1])
        return answer

    def add_reader(self, reader):
        self._readers.append(reader)

    def answer_at(self, place):
        """Tell a reader, who was told so many gifts, its next answer."""
        if place < len(self._drawn_gifts):
            return ("gift", self._drawn_gifts[place])
        return self.told()

    def kept(self):
        """Tell the gifts that are kept for the readers that aren't closed."""
        places = [reader.place() for reader in self._readers if not reader.is_closed()]
        return self._drawn_gifts[min(places, default=len(self._drawn_gifts)):]

    def shut_behind_last(self):
        """Close the row that was split where no reader is left."""
        if all([reader.is_closed() for reader in self._readers]):
            self.shut()


class Reader(Row):
    """The gifts of the row that was split, all of them to each reader."""

    def __init__(self, shared, place):
        Row.__init__(self, [])
        self._shared = shared
        self._place = place
        shared.add_reader(self)

    def kept(self):
        """Tell the drawn gifts that some reader that isn't closed was not told."""
        return self._shared.kept()

    def place(self):
        """Tell how many gifts it was told."""
        return self._place

    def split_row(self):
        """Tell the row that was split."""
        return self._shared.beneath()[0]

    def next_answer(self):
        answer = self._shared.answer_at(self._place)
        if answer[0] == "gift":
            self._place += 1
        return answer

    def at_close(self):
        self._shared.shut_behind_last()

    def copy_on(self, rows):
        return Reader(self._shared, self._place)
