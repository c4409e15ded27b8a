"""What all rows have in common: who may ask them, how they end, how they
are closed and copied."""

from giftstreams.errors import Closed, Held, NoCopy, NoRow


def want_rows(rows):
    """Refuse anything but a list of rows, however they stand."""
    if not isinstance(rows, list) or not all([isinstance(row, Row) for row in rows]):
        raise NoRow("a row is wanted, and rows in a list")


def want_free(rows):
    """Refuse anything but a list of free rows in which none stands twice."""
    want_rows(rows)
    if any([row.is_held() for row in rows]) or _one_stands_twice(rows):
        raise Held("the row is held, or it stands twice")
    if any([row.is_closed() for row in rows]):
        raise Closed("the row is closed")


def _one_stands_twice(rows):
    return len({row: True for row in rows}) < len(rows)


def _all_may_copy(row):
    return row.may_copy() and all([_all_may_copy(lower) for lower in row.beneath()])


def _copy_with_all_beneath(row):
    other = row.copy_on([_copy_with_all_beneath(lower) for lower in row.beneath()])
    if row.is_over():
        other.end_it()
    return other


class Row:
    """The base of all rows, made only by the classes under it.

    They put next_answer and copy_on otherwise, and at_close and may_copy
    where they need to. The attributes have long names, so that a class under
    this one doesn't take one of them for its own.
    """

    def __init__(self, rows):
        """Hold these rows, or refuse as want_free does and hold none."""
        want_free(rows)
        self._rows_beneath = list(rows)
        self._row_is_over = False
        self._row_is_closed = False
        self._row_is_held = False
        for row in self._rows_beneath:
            row._row_is_held = True

    # For whoever has the row, as long as it is free.

    def ask(self):
        """Tell the next answer."""
        want_free([self])
        return self.told()

    def close(self):
        """Close it for good, with all beneath it."""
        want_free([self])
        self.shut()

    def copied(self):
        """Tell a new, free row that stands where this one stands."""
        want_free([self])
        return self.whole_copy()

    # For everybody, at any time.

    def is_over(self):
        """Tell whether its last answer was told."""
        return self._row_is_over

    def is_closed(self):
        """Tell whether it was closed."""
        return self._row_is_closed

    def is_held(self):
        """Tell whether another row holds it."""
        return self._row_is_held

    def beneath(self):
        """Tell the rows that it holds, from the left to the right."""
        return list(self._rows_beneath)

    # Put otherwise by the classes under this one.

    def next_answer(self):
        """Tell the next answer of a row that isn't over."""
        raise NotImplementedError("each sort of row tells its own answers")

    def at_close(self):
        """Do what is to be done, once, as the row is closed."""

    def copy_on(self, rows):
        """Tell a new row that stands as this one does, upon these rows."""
        raise NotImplementedError("each sort of row is copied in its own way")

    def may_copy(self):
        """Tell whether it can be copied."""
        return True

    # For the holders of rows, of the rows that they hold.

    def told(self):
        """As ask, without a look whether it is free."""
        if self._row_is_over:
            return ("end",)
        answer = self.next_answer()
        if answer[0] != "gift":
            self.end_it()
        return answer

    def shut(self):
        """As close, without a look whether it is free; once only."""
        if self._row_is_closed:
            return
        self._row_is_closed = True
        self.at_close()
        for row in self._rows_beneath:
            row.shut()

    def whole_copy(self):
        """As copied, without a look whether it is free."""
        # All are looked at ahead of the first copy: a refusal leaves nothing
        # behind, though some copies are known to others than their asker.
        if not _all_may_copy(self):
            raise NoCopy("the row, or one beneath it, can't be copied")
        return _copy_with_all_beneath(self)

    def end_it(self):
        """It is over from now on."""
        self._row_is_over = True
