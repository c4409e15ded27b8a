"""A second telling of all sorts of rows, in which each one keeps all that it
ever drew, and copies are made by Python's deepcopy. Nothing of the program is
used here; tests let nets of both answer and compare."""

import copy

END = ("end",)


class Chance:
    """Numbers that look thrown, the same in each run."""

    def __init__(self, seed):
        self.state = seed * 2654435761 % 4294967296

    def below(self, n):
        self.state = (self.state * 1664525 + 1013904223) % 4294967296
        return (self.state >> 12) % n

    def one_of(self, things):
        return things[self.below(len(things))]


class Model:
    """The base: over, closed, held, and the models beneath."""

    def __init__(self, *low):
        self.low = list(low)
        self.over = self.closed = self.held = False
        for one in low:
            one.held = True

    def tell(self):
        if self.over:
            return END
        answer = self.answer()
        if answer[0] != "gift":
            self.finish()
        return answer

    def finish(self):
        self.over = True

    def shut(self):
        if not self.closed:
            self.closed = True
            self.shutting()
            for one in self.low:
                one.shut()

    def shutting(self):
        pass

    def hangs_on(self):
        return self.low

    def sources(self):
        found = []
        for one in self.hangs_on():
            found += [source for source in one.sources() if source not in found]
        return found

    def may_copy(self):
        return all(one.may_copy() for one in self.low)

    def depth(self):
        return 1 + max([one.depth() for one in self.hangs_on()], default=0)

    def whole(self):
        return [self] + [lower for one in self.low for lower in one.whole()]


def copied(model):
    other = copy.deepcopy(model)
    other.held = False
    for one in other.whole():
        if isinstance(one, MGroups) and one.groups:
            one.groups[-1].held = False
        if isinstance(one, MReader):
            one.shared.readers.append(one)
    return other


class Log(list):
    """A list that copies have in common."""

    def __deepcopy__(self, memo):
        return self


class MSource(Model):

    def __init__(self, script, log, name):
        Model.__init__(self)
        self.script, self.log, self.name, self.drawn = script, log, name, 0

    def answer(self):
        self.log.append((self.name, self.drawn))
        self.drawn += 1
        return self.script[self.drawn - 1]

    def shutting(self):
        self.log.append((self.name, "closed"))

    def sources(self):
        return [self]


class MTurned(Model):

    def __init__(self, row, turn):
        Model.__init__(self, row)
        self.turn = turn

    def answer(self):
        answer = self.low[0].tell()
        return ("gift", self.turn(answer[1])) if answer[0] == "gift" else answer


class MSieved(Model):

    def __init__(self, row, test):
        Model.__init__(self, row)
        self.test = test

    def answer(self):
        while True:
            answer = self.low[0].tell()
            if answer[0] != "gift" or self.test(answer[1]):
                return answer


class MUpto(MSieved):

    def answer(self):
        answer = self.low[0].tell()
        return END if answer[0] == "gift" and not self.test(answer[1]) else answer


class Keeping(Model):
    """Keeps what it told of the row beneath, and what it drew of it."""

    def __init__(self, row, *numbers):
        Model.__init__(self, row)
        self.numbers = numbers
        self.drawn, self.told = [], []

    def draw(self):
        self.drawn.append(self.low[0].tell())
        return self.drawn[-1]

    def draw_till(self, many):
        """None, or the answer that was no gift."""
        while len(self.drawn) < many:
            answer = self.draw()
            if answer[0] != "gift":
                return answer
        return None


class MCut(Keeping):

    def answer(self):
        return END if len(self.drawn) >= self.numbers[0] else self.draw()


class MLeft(Keeping):

    def answer(self):
        return self.draw_till(self.numbers[0] + len(self.told)) or self.tell_next()

    def tell_next(self):
        self.told.append(self.draw())
        return self.told[-1]


class MWindows(Keeping):

    def answer(self):
        size, step = self.numbers
        first = len(self.told) * step
        last = self.draw_till(first + size)
        if last is None:
            self.told.append(tuple(answer[1] for answer in self.drawn[first:first + size]))
            last = ("gift", self.told[-1])
        return last


class MWanted(Keeping):

    def answer(self):
        n, word = self.numbers
        answer = self.draw()
        if answer == END and len(self.drawn) - 1 < n:
            return ("fault", word)
        return answer


class MAhead(Keeping):

    def look(self):
        if self.over:
            return END
        last = self.draw_till(len(self.told) + 1)
        if last is not None:
            self.finish()
            return last
        return self.drawn[-1]

    def answer(self):
        last = self.draw_till(len(self.told) + 1)
        if last is not None:
            return last
        self.told.append(self.drawn[-1])
        return self.drawn[-1]


class MChained(Model):

    def answer(self):
        for one in self.low:
            answer = one.tell()
            if answer != END:
                return answer
        return END


class MBeside(Model):

    def answer(self):
        gifts = ()
        for one in self.low:
            answer = one.tell()
            if answer[0] != "gift":
                return answer
            gifts += (answer[1],)
        return ("gift", gifts)


class MSpare(Model):

    def __init__(self, row, other):
        Model.__init__(self, row, other)
        self.faults = []

    def noted(self):
        return self.faults[0][1] if self.faults else None

    def answer(self):
        if self.faults:
            return self.low[1].tell()
        answer = self.low[0].tell()
        if answer[0] != "fault":
            return answer
        self.faults.append(answer)
        return self.low[1].tell()


class MGroups(Model):
    """Keeps all drawn gifts with their marks, and where each group begins."""

    def __init__(self, row, mark):
        Model.__init__(self, row)
        self.mark = mark
        self.drawn, self.begins, self.groups = [], [], []

    def draw(self):
        answer = self.low[0].tell()
        if answer[0] != "gift":
            self.finish()
        else:
            self.drawn.append((answer[1], self.mark(answer[1])))
        return answer

    def next_begin(self):
        """Where the next group begins, if that was drawn already."""
        if not self.begins:
            return 0 if self.drawn else None
        mark = self.drawn[self.begins[-1]][1]
        others = [at for at in range(self.begins[-1], len(self.drawn)) if self.drawn[at][1] != mark]
        return others[0] if others else None

    def answer(self):
        while self.next_begin() is None:
            answer = self.draw()
            if answer[0] != "gift":
                return answer
        at = self.next_begin()
        self.end_groups()
        self.begins.append(at)
        self.groups = [MGroup(self, at)]
        return ("gift", self.drawn[at][1])

    def end_groups(self):
        for group in self.groups:
            group.over = True

    def finish(self):
        self.over = True
        self.end_groups()

    def shutting(self):
        self.end_groups()


class MGroup(Model):

    def __init__(self, of, at):
        Model.__init__(self)
        self.of, self.at = of, at

    def answer(self):
        of = self.of
        if self.at == len(of.drawn):
            answer = of.draw()
            if answer[0] != "gift":
                return answer
        if self.at == of.next_begin():
            return END
        self.at += 1
        return ("gift", of.drawn[self.at - 1][0])

    def may_copy(self):
        return False

    def hangs_on(self):
        return [self.of.low[0]]

    def depth(self):
        return 1 + self.of.depth()


class Shared:
    """What the readers of one split hang on."""

    def __init__(self, row):
        self.row, self.answers, self.readers = row, [], []
        row.held = True

    def __deepcopy__(self, memo):
        return self

    def gifts(self):
        return [answer[1] for answer in self.answers if answer[0] == "gift"]

    def kept(self):
        places = [reader.place for reader in self.readers if not reader.closed]
        return [gift for at, gift in enumerate(self.gifts()) if any(at >= one for one in places)]


class MReader(Model):

    def __init__(self, shared):
        Model.__init__(self)
        self.shared, self.place = shared, 0
        shared.readers.append(self)

    def answer(self):
        shared = self.shared
        if self.place < len(shared.gifts()):
            self.place += 1
            return ("gift", shared.gifts()[self.place - 1])
        if len(shared.gifts()) < len(shared.answers):
            return END
        shared.answers.append(shared.row.tell())
        if shared.answers[-1][0] == "gift":
            self.place += 1
        return shared.answers[-1]

    def shutting(self):
        if all(reader.closed for reader in self.shared.readers):
            self.shared.row.shut()

    def hangs_on(self):
        return [self.shared.row]


def split(row, many):
    shared = Shared(row)
    return [MReader(shared) for _ in range(many)]
