"""What several tests need: sources that note who asks them, small classes
under Row, and things of many wrong kinds."""

from giftstreams.errors import (
    Closed, GiftError, Held, NoCopy, NoCount, NoGroup, NoKind, NoName, NoNumber,
    NoNumbers, NoPlan, NoRow, NoSay, NoStep, NoText)
from giftstreams.rows import Row
from giftstreams.sources import Counted, Listed, ToldBy

REFUSALS = [
    NoRow, Held, Closed, NoNumbers, NoNumber, NoCount, NoGroup, NoCopy, NoText,
    NoPlan, NoStep, NoSay, NoName, NoKind]

GREAT = 10 ** 29 + 7


class Thing:
    """No row, no number, no list."""


def no_wholes():
    """Things of which none is a whole number."""
    return [
        None, True, False, "", "7", b"7", (), (7,), [], [7], {}, {7: 7}, set(), {7},
        Thing(), Thing, int, len, lambda: 7, range(7), iter([7]), GiftError(), Listed([7])]


def no_rows():
    """Things of which none is a row."""
    return [
        None, True, False, 0, 7, "", "row", b"", (), [], [Listed([1])], {}, set(),
        Thing(), Thing, Row, Listed, len, lambda: 7, range(7), iter([]), GiftError()]


def no_lists():
    """Things of which none is a list, though a row may be in them."""
    return [
        None, True, False, 0, 7, "", "ab", b"", (), (Listed([1]),), (1, 2), {},
        {Listed([1]): 1}, {1: 2}, set(), {1}, Thing(), Thing, list, range(3),
        iter([1]), (n for n in [1]), lambda: [1], GiftError(), Listed([1])]


def scripted(answers, log, name="s"):
    """A row told by a function that notes each asking, and the closing."""
    def tell(k):
        log.append((name, k))
        return answers[k]

    def at_end():
        log.append((name, "closed"))

    return ToldBy(tell, at_end)


def gifts_forever(log, name="s"):
    """A row told by a function that never ends."""
    def tell(k):
        log.append((name, k))
        return ("gift", k)

    def at_end():
        log.append((name, "closed"))

    return ToldBy(tell, at_end)


class Several(Row):
    """Holds rows and answers the tuple of their gifts, behind the number of
    the asking; ends with the first that ends, and notes when it is closed."""

    def __init__(self, rows, log, name="several"):
        Row.__init__(self, rows)
        self.log = log
        self.name = name
        self.nth = 0

    def next_answer(self):
        self.nth += 1
        gifts = [self.nth]
        for row in self.beneath():
            answer = row.told()
            if answer[0] != "gift":
                return answer
            gifts.append(answer[1])
        return ("gift", tuple(gifts))

    def at_close(self):
        self.log.append((self.name, "closed"))

    def copy_on(self, rows):
        other = Several(rows, self.log, self.name)
        other.nth = self.nth
        return other


class Uncopied(Several):
    """As Several, but it can't be copied."""

    def may_copy(self):
        return False

    def copy_on(self, rows):
        self.log.append((self.name, "copied"))
        return Uncopied(rows, self.log, self.name)


class Plain(Row):
    """Puts otherwise only what each class under Row has to."""

    def next_answer(self):
        return ("end",)

    def copy_on(self, rows):
        return Plain(rows)


def free_row():
    return Listed([1, 2, 3])


def held_row():
    row = Counted(1, 1, 9)
    Plain([row])
    return row


def closed_row():
    row = Listed([4, 5])
    row.close()
    return row


def held_and_closed_row():
    row = Listed([6])
    Plain([row]).close()
    return row


def asked(row, many):
    """The answers of so many askings."""
    return [row.ask() for _ in range(many)]


def stands(row):
    """What is told of a row at any time."""
    return (row.is_over(), row.is_closed(), row.is_held(), row.beneath())
