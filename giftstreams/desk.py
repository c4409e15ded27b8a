"""A desk that keeps rows by names, and does what rows of words say."""

from giftstreams.ahead import Ahead
from giftstreams.errors import NoKind, NoName, NoSay, NoText
from giftstreams.groups import Groups
from giftstreams.nets import sources_of
from giftstreams.plans import grown
from giftstreams.plantexts import read_plan
from giftstreams.shapes import is_word
from giftstreams.splits import MOST_READERS, Reader, split
from giftstreams.wholes import number_in_figures

MOST_NAMED = 60


class Desk:
    """Rows by their names."""

    def __init__(self):
        self._rows = {}

    def say(self, row):
        """Do what a row of words says, and tell the answer."""
        said = _read_saying(row)
        self._want_names(said)
        act = ACTS[said.word]
        text, made = act([self._rows[name] for name in said.names], said)
        for name, new in zip(said.news, made):
            self._rows[name] = new
        return text

    def _want_names(self, said):
        if not all([is_word(name) for name in said.news + said.names]):
            raise NoName("a name is one to eight small letters")
        if len({name: True for name in said.news}) < len(said.news):
            raise NoName("two new names are the same")
        if not all([name in self._rows for name in said.names]):
            raise NoName("nothing is kept by this name")


class Saying:
    """What a row of words says: its first word, the names that are given
    anew, those by which something is kept, and a plan, where there is one."""

    def __init__(self, word, news, names, plan):
        self.word = word
        self.news = news
        self.names = names
        self.plan = plan


def _read_saying(text):
    if not isinstance(text, str):
        raise NoSay("a text is wanted")
    words = text.split(" ")
    if "" in words:
        raise NoSay("one blank stands between two words, and none at an end")
    if words[0] == "grow":
        return _read_growing(words)
    if words[0] == "split":
        _want_words(3 <= len(words) <= 2 + MOST_READERS)
        return Saying("split", words[2:], words[1:2], None)
    if words[0] in ("group", "copy"):
        _want_words(len(words) == 3)
        return Saying(words[0], words[1:2], words[2:], None)
    _want_words(words[0] in ACTS and len(words) == 2)
    return Saying(words[0], [], words[1:], None)


def _read_growing(words):
    _want_words(len(words) > 3)
    many = number_in_figures(words[2])
    _want_words(many is not None and 0 <= many <= MOST_NAMED)
    try:
        plan = read_plan(" ".join(words[3 + many:]))
    except NoText:
        raise NoSay("what should be a plan's text is none") from None
    return Saying("grow", words[1:2], words[3:3 + many], plan)


def _want_words(are_right):
    if not are_right:
        raise NoSay("this is none of the rows of words that a desk is told")


# What is done: each is handed the rows that are named and the saying, and
# tells the text of the answer and the rows that get the new names.

def _grow(rows, said):
    return ("ok", [grown(said.plan, rows)])


def _ask(rows, said):
    return (_answer_text(rows[0].ask()), [])


def _look(rows, said):
    _want_kind(isinstance(rows[0], Ahead))
    return (_answer_text(rows[0].look()), [])


def _split(rows, said):
    return ("ok", split(rows[0], len(said.news)))


def _group(rows, said):
    _want_kind(isinstance(rows[0], Groups))
    return ("ok", [rows[0].group()])


def _copy(rows, said):
    return ("ok", [rows[0].copied()])


def _close(rows, said):
    rows[0].close()
    return ("ok", [])


def _kept(rows, said):
    _want_kind(isinstance(rows[0], Reader))
    return (" ".join([_gift_text(gift) for gift in rows[0].kept()]), [])


def _drawn(rows, said):
    return (" ".join([str(source.drawn()) for source in sources_of(rows[0])]), [])


def _stands(rows, said):
    row = rows[0]
    words = [("over", row.is_over()), ("closed", row.is_closed()), ("held", row.is_held())]
    return (" ".join([word for word, is_so in words if is_so]), [])


ACTS = {
    "grow": _grow,
    "ask": _ask,
    "look": _look,
    "split": _split,
    "group": _group,
    "copy": _copy,
    "close": _close,
    "kept": _kept,
    "drawn": _drawn,
    "stands": _stands}


def _want_kind(is_right):
    if not is_right:
        raise NoKind("the row is of another sort than is asked")


def _answer_text(answer):
    if answer[0] == "gift":
        return "gift " + _gift_text(answer[1])
    return " ".join(answer)


def _gift_text(gift):
    if isinstance(gift, tuple):
        return "(" + " ".join([_gift_text(part) for part in gift]) + ")"
    return str(gift)
