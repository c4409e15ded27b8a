"""Many answers of a row at once, and the sources on which a row hangs."""

from giftstreams.groups import Group
from giftstreams.rows import want_free, want_rows
from giftstreams.sources import Counted, Listed, ToldBy
from giftstreams.splits import Reader
from giftstreams.wholes import want_count

MOST_TAKEN = 200


def taken(row, n):
    """Ask at most n times: tell the gifts, and the answer that was none."""
    want_free([row])
    want_count(n, 0, MOST_TAKEN)
    gifts = []
    for _ in range(n):
        answer = row.ask()
        if answer[0] != "gift":
            return (gifts, answer)
        gifts.append(answer[1])
    return (gifts, None)


def sources_of(row):
    """Tell the sources on which a row hangs, each where it is met first."""
    want_rows([row])
    sources = []
    met = {}
    to_meet = [row]
    while to_meet:
        one = to_meet.pop()
        # Readers of one split lead to the same row: gone through again by
        # each of them, readers upon readers would take far too long.
        if one in met:
            continue
        met[one] = True
        if isinstance(one, (Listed, Counted, ToldBy)):
            sources.append(one)
        to_meet.extend(_hangs_on(one)[::-1])
    return sources


def _hangs_on(row):
    if isinstance(row, Reader):
        return [row.split_row()]
    if isinstance(row, Group):
        return row.groups().beneath()
    return row.beneath()
